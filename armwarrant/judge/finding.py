"""The finder: it looks for certificates and meetings by halving moves."""
from armwarrant.errors import OutOfRange
from armwarrant.judge.judging import DEEPEST, accepts_leaf
from armwarrant.judge.sides import BOTH_WHOLE, Scene, halved


class Verdict:
    """What the finder tells of a matter: a word, and the tree or the two parts that show it."""

    def __init__(self, word, tree, at, looked):
        self.word = word
        self.tree = tree
        self.at = at
        self.looked = looked

    def told(self):
        """Return the word and what shows it."""
        return (self.word, self.tree if self.word == "clear" else self.at)


def find_verdict(matter, depth):
    """Return the verdict on a matter, with at most so many halvings in one another."""
    if not 0 <= depth <= DEEPEST:
        raise OutOfRange("depth")
    return _verdict_at(Scene(matter), BOTH_WHOLE, depth)


def _verdict_at(scene, at, left):
    """Return the verdict on two parts, where some halvings are left."""
    pairs = scene.pairs(at)
    ways = tuple([pair.way() for pair in pairs])
    if accepts_leaf(pairs, ways):
        return Verdict("clear", ("leaf", ways), None, 1)
    if any([pair.surely_meets() for pair in pairs]):
        return Verdict("meets", None, at, 1)
    if left == 0 or not all([pair.surely_apart() for pair in pairs]):
        return Verdict("open", None, at, 1)
    return _verdict_on_halves(scene, at, left - 1)


def _verdict_on_halves(scene, at, left):
    """Return the verdict on two parts, one of which is halved."""
    word = scene.better_halved(at)
    low_at, high_at = halved(word, at)
    low = _verdict_at(scene, low_at, left)
    if low.word != "clear":
        return Verdict(low.word, None, low.at, low.looked + 1)
    high = _verdict_at(scene, high_at, left)
    looked = low.looked + high.looked + 1
    if high.word != "clear":
        return Verdict(high.word, None, high.at, looked)
    return Verdict("clear", (word, low.tree, high.tree), None, looked)
