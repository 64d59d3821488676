"""Armwarrant: robot arms that share a cell and never touch."""
