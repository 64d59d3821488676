"""The controller of a plan while it runs."""
