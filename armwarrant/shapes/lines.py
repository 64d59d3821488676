"""The gap of two lines."""
from armwarrant.shapes.gaps import Gap, place_gap, shortest, turned_round
from armwarrant.shapes.vectors import dot, minus, plus, scaled


def line_gap(first, second):
    """Return the gap of two lines, each a pair of its ends."""
    gaps = [place_gap(end, second[0], second[1]) for end in first]
    gaps = gaps + [turned_round(place_gap(end, first[0], first[1])) for end in second]
    inside = _inside_gap(first, second)
    if inside is not None:
        gaps = [inside] + gaps
    return shortest(gaps)


def _inside_gap(first, second):
    """Return the gap between places strictly inside both lines, or None if there is none."""
    u = minus(first[1], first[0])
    v = minus(second[1], second[0])
    w = minus(first[0], second[0])
    uu = dot(u, u)
    uv = dot(u, v)
    vv = dot(v, v)
    uw = dot(u, w)
    vw = dot(v, w)
    n = uu * vv - uv * uv
    s = uv * vw - vv * uw
    t = uu * vw - uv * uw
    # Parallel lines have n = 0, so they fail here, too.
    if not (0 < s < n and 0 < t < n):
        return None
    return Gap(minus(plus(scaled(w, n), scaled(u, s)), scaled(v, t)), n)
