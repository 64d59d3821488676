"""The judge: which certificates and which meetings hold."""
from armwarrant.judge.sides import BOTH_WHOLE, WHOLE, Scene, halved
from armwarrant.shapes.parting import DIGITS
from armwarrant.shapes.vectors import greatest

DEEPEST = 20


def judge(matter, tree):
    """Return True if the judge accepts the tree for the matter."""
    return _accepts(Scene(matter), tree, BOTH_WHOLE, DEEPEST)


def accepts_leaf(pairs, ways):
    """Return True if there is a way for each pair, and each way parts its pair."""
    if len(ways) != len(pairs):
        return False
    return all([greatest(way) <= 1 << DIGITS and pair.is_parted(way) for pair, way in zip(pairs, ways)])


def is_meeting(matter, first, second):
    """Return True if some pair of the matter surely meets at two parts."""
    if not (_is_part(first) and _is_part(second)):
        return False
    if matter.kind != "arms" and second != WHOLE:
        return False
    return any([pair.surely_meets() for pair in Scene(matter).pairs((first, second))])


def _accepts(scene, tree, at, left):
    """Return True if the judge accepts the tree for two parts, where some halvings are left."""
    word = tree[0]
    if word == "leaf":
        return accepts_leaf(scene.pairs(at), tree[1])
    if left == 0 or (word == "second" and scene.kind != "arms"):
        return False
    low, high = halved(word, at)
    return _accepts(scene, tree[1], low, left - 1) and _accepts(scene, tree[2], high, left - 1)


def _is_part(part):
    """Return True if a move has the part, and it is not too deep."""
    depth, at = part
    return 0 <= depth <= DEEPEST and 0 <= at < 1 << depth
