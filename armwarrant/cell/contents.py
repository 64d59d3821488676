"""The contents of a cell."""

FIRST_DEPTH = 6


class Contents:
    """The things of a cell, in their order, and the depth for the finder."""

    def __init__(self):
        self.arms = {}
        self.solids = {}
        self.parts = {}
        self.points = {}
        self.tasks = {}
        self.depth = FIRST_DEPTH

    def copied(self):
        """Return contents that can be changed without these."""
        other = Contents()
        other.arms = dict(self.arms)
        other.solids = dict(self.solids)
        other.parts = dict(self.parts)
        other.points = {key: self.points[key] for key in self.points}
        other.tasks = dict(self.tasks)
        other.depth = self.depth
        return other
