"""The sides of the pairs of a matter, at two parts of the moves of its movers.

Where both parts go together, they are a pair: the part of the first mover, and that of the second one.
"""
from armwarrant.arms.moves import lower, upper
from armwarrant.shapes.lines import line_gap
from armwarrant.shapes.parting import direction, parts_places

WHOLE = (0, 0)
BOTH_WHOLE = ((0, 0), (0, 0))


def halved(word, at):
    """Return both halves of two parts, of which the one that the word tells is halved."""
    first, second = at
    if word == "first":
        return ((lower(first), second), (upper(first), second))
    return ((first, lower(second)), (first, upper(second)))


class Side:
    """The side of a mover: the line of a body, its radius, and its unknowns for the halves and for the slacks."""

    def __init__(self, line, radius, wide, narrow):
        self.line = line
        self.radius = radius
        self.wide = wide
        self.narrow = narrow


class SolidPair:
    """A pair of a side of a mover and a solid."""

    def __init__(self, side, solid):
        self.side = side
        self.solid = solid

    def way(self):
        """Return the way that the finder tries."""
        return self.solid.way_from(self.side.line)

    def is_parted(self, way):
        """Return True if the way parts the pair."""
        return self.solid.is_parted(way, self.side.line, self.side.radius + self.side.wide)

    def surely_meets(self):
        """Return True if the two meet, wherever the arm truly is."""
        return self.solid.is_within(self.side.line, self.side.radius - self.side.narrow)

    def surely_apart(self):
        """Return True if the two do not meet, wherever the arm truly is in the very middle."""
        return self.solid.is_beyond(self.side.line, self.side.radius + self.side.narrow)


class BodyPair:
    """A pair of two sides of movers."""

    def __init__(self, side, other):
        self.side = side
        self.other = other

    def way(self):
        """Return the way that the finder tries."""
        return direction(self._gap().vector)

    def is_parted(self, way):
        """Return True if the way parts the pair."""
        return parts_places(way, self.side.line, self.other.line, self._radii() + self.side.wide + self.other.wide)

    def surely_meets(self):
        """Return True if the two meet, wherever the arms truly are."""
        return self._gap().within(self._radii() - self.side.narrow - self.other.narrow)

    def surely_apart(self):
        """Return True if the two do not meet, wherever the arms truly are in the very middle."""
        return self._gap().beyond(self._radii() + self.side.narrow + self.other.narrow)

    def _radii(self):
        return self.side.radius + self.other.radius

    def _gap(self):
        return line_gap(self.side.line, self.other.line)


class Track:
    """A mover with its sides at the parts of its move, each found only once."""

    def __init__(self, mover):
        self.mover = mover
        self.radii = [body.radius for _, body in mover.bodies()]
        self.narrow = mover.unknowns(mover.move.slack())
        self.wide_at = {}
        self.sides_at = {}

    def wide_unknowns(self, depth):
        """Return the unknowns of the bodies for the halves at a depth."""
        if depth not in self.wide_at:
            self.wide_at[depth] = self.mover.unknowns(self.mover.move.halves(depth))
        return self.wide_at[depth]

    def gain(self, depth):
        """Return how much less of a body can be unknown if a part of this depth is halved on and on."""
        return max([wide - narrow for wide, narrow in zip(self.wide_unknowns(depth), self.narrow)], default=0)

    def sides(self, part):
        """Return the sides of the bodies at a part."""
        if part not in self.sides_at:
            lines = self.mover.lines(part)
            unknowns = self.wide_unknowns(part[0])
            self.sides_at[part] = [
                Side(line, radius, wide, narrow)
                for line, radius, wide, narrow in zip(lines, self.radii, unknowns, self.narrow)
            ]
        return self.sides_at[part]


class Scene:
    """A matter with the tracks of its movers."""

    def __init__(self, matter):
        self.kind = matter.kind
        self.solid = matter.other
        self.indexes = matter.pairs()
        self.track = Track(matter.mover)
        self.other_track = Track(matter.other) if matter.kind == "arms" else None

    def pairs(self, at):
        """Return the pairs of the matter at two parts."""
        sides = self.track.sides(at[0])
        if self.kind == "shape":
            return [SolidPair(sides[i], self.solid) for i, _ in self.indexes]
        others = self.other_track.sides(at[1]) if self.kind == "arms" else sides
        return [BodyPair(sides[i], others[j]) for i, j in self.indexes]

    def better_halved(self, at):
        """Return the word of the part that is better halved."""
        if self.kind == "arms" and self.other_track.gain(at[1][0]) > self.track.gain(at[0][0]):
            return "second"
        return "first"
