"""Flows: programs without lists in one another, as steps that only ever lead forward."""
from armwarrant.errors import FlowTooLong, MissingRoutine, RecursiveRoutine

LONGEST = 200


def flow_of(program):
    """Return the flow of a program; raise the error that tells why it has none."""
    finished = {}
    _go_through(program, program.body, [], finished)
    # A routine is finished behind all that it calls, so what it needs of them is always known.
    lengths = {}
    for name in finished:
        lengths[name] = _length_of(program.routine(name), lengths)
    if _length_of(program.body, lengths) > LONGEST:
        raise FlowTooLong("the flow of the program would be too long")
    flows = {}
    for name in finished:
        flows[name] = _steps_of(program.routine(name), flows)
    return _steps_of(program.body, flows)


def landing(flow, index):
    """Return the index of the first step from an index on that is no jump, where jumps are followed."""
    while index < len(flow) and flow[index][0] == "jump":
        index = flow[index][1]
    return index


def points_of(flow):
    """Return the names of the points in the flow."""
    return _each_once([step[1] for step in flow if step[0] == "move"])


def signals_of(flow):
    """Return the names of the signals that the flow switches."""
    return _each_once([step[1] for step in flow if step[0] == "set"])


def parts_of(flow):
    """Return the names of the parts in the flow."""
    return _each_once([step[1] for step in flow if step[0] == "hold" and step[1] is not None])


def _each_once(names):
    found = {}
    for name in names:
        found[name] = True
    return list(found)


def _go_through(program, statements, begun, finished):
    """Go through the calls of some statements, and note the routines behind all that they call.

    What is begun are the names of the routines whose statements are being gone through.
    """
    for name in _calls_in(statements):
        if name in begun:
            raise RecursiveRoutine(name)
        # A finished routine calls none that is begun, so it need not be gone through again.
        if name not in finished:
            called = program.routine(name)
            if called is None:
                raise MissingRoutine(name)
            _go_through(program, called, begun + [name], finished)
            finished[name] = True


def _calls_in(statements):
    """Return the names of the routines that are called, in the order of the text."""
    names = []
    for statement in statements:
        if statement[0] == "call":
            names.append(statement[1])
        for inner in _lists_in(statement):
            names.extend(_calls_in(inner))
    return names


def _lists_in(statement):
    """Return the lists of statements in a statement."""
    if statement[0] == "if":
        return [statement[2], statement[3]]
    if statement[0] == "repeat":
        return [statement[2]]
    return []


def _length_of(statements, lengths):
    """Return the length of some statements, where those of the called routines are known."""
    return sum([_length_of_statement(statement, lengths) for statement in statements])


def _length_of_statement(statement, lengths):
    word = statement[0]
    if word == "if":
        return 2 + _length_of(statement[2], lengths) + _length_of(statement[3], lengths)
    if word == "repeat":
        return 1 + statement[1] * _length_of(statement[2], lengths)
    if word == "call":
        return 1 + lengths[statement[1]]
    return 1


def _steps_of(statements, flows):
    """Return the flow of some statements, where those of the called routines are known."""
    steps = []
    for statement in statements:
        steps.extend(_moved(_steps_of_statement(statement, flows), len(steps)))
    return steps


def _steps_of_statement(statement, flows):
    word = statement[0]
    if word == "take":
        return [("hold", statement[1])]
    if word == "release":
        return [("hold", None)]
    if word == "if":
        return _steps_of_if(statement, flows)
    if word == "repeat":
        return _steps_of(statement[2] * statement[1], flows)
    if word == "call":
        return flows[statement[1]]
    return [statement]


def _steps_of_if(statement, flows):
    first = _steps_of(statement[2], flows)
    second = _steps_of(statement[3], flows)
    if len(statement[3]) > 0:
        first = first + [("jump", len(first) + 1 + len(second))]
    at = 1 + len(first)
    return [("if", statement[1], at)] + _moved(first, 1) + _moved(second, at)


def _moved(steps, by):
    """Return the steps as they are where they begin at another index."""
    moved = []
    for step in steps:
        if step[0] == "if":
            moved.append((step[0], step[1], step[2] + by))
        elif step[0] == "jump":
            moved.append((step[0], step[1] + by))
        else:
            moved.append(step)
    return moved
