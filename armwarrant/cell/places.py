"""The places to which a flow can lead, whatever is read and whatever signals are on."""
from armwarrant.programs.flows import landing


def places_of(flow, start):
    """Return the places of a flow that begins at a point, in the order of its steps."""
    pairs = _pairs_at(flow, start)
    places = {}
    for at, found in enumerate(pairs):
        for point, held in found:
            places[("rest", point, held)] = True
            if at < len(flow) and flow[at][0] == "move":
                places[("move", point, flow[at][1], held)] = True
    return list(places)


def _pairs_at(flow, start):
    """Return for each step, and for the end, the pairs of a point and a held part with which it can be reached."""
    pairs = [[] for _ in range(len(flow) + 1)]
    pairs[landing(flow, 0)].append((start, None))
    # Steps lead forward only, so all pairs of a step are there when it comes.
    for at, step in enumerate(flow):
        found = [_pair_after(step, pair) for pair in pairs[at]]
        _hand_on(pairs[landing(flow, at + 1)], found)
        if step[0] == "if":
            _hand_on(pairs[landing(flow, step[2])], found)
    return pairs


def _pair_after(step, pair):
    point, held = pair
    if step[0] == "move":
        return (step[1], held)
    if step[0] == "hold":
        return (point, step[1])
    return pair


def _hand_on(pairs, found):
    """Put those of the found pairs that are not there yet behind the others."""
    for pair in found:
        if pair not in pairs:
            pairs.append(pair)
