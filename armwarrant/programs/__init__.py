"""The programs of arms, and how they are read."""
