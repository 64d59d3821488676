"""What programs and flows do, for what is read."""
from armwarrant.programs.flows import landing


def deeds_of_program(program, readings):
    """Return the deeds of a program, and how many readings were taken."""
    deeds = []
    taken = 0
    # What is still to be done, the next statement last.
    ahead = _backwards(program.body)
    while len(ahead) > 0:
        statement = ahead.pop()
        word = statement[0]
        if word == "if":
            chosen = statement[2] if _reading(readings, taken) else statement[3]
            ahead.extend(_backwards(chosen))
            taken += 1
        elif word == "repeat":
            ahead.extend(_backwards(statement[2]) * statement[1])
        elif word == "call":
            ahead.extend(_backwards(program.routine(statement[1])))
        else:
            deeds.append(_deed_of(statement))
    return (deeds, taken)


def deeds_of_flow(flow, readings):
    """Return the deeds of a flow, and how many readings were taken."""
    deeds = []
    taken = 0
    at = landing(flow, 0)
    while at < len(flow):
        step = flow[at]
        at += 1
        if step[0] == "if":
            if not _reading(readings, taken):
                at = step[2]
            taken += 1
        else:
            deeds.append(step)
        at = landing(flow, at)
    return (deeds, taken)


def _reading(readings, index):
    """Return what is read; behind the end of the readings everything is off."""
    return index < len(readings) and readings[index]


def _deed_of(statement):
    """Return the deed of a statement that has no lists."""
    if statement[0] == "take":
        return ("hold", statement[1])
    if statement[0] == "release":
        return ("hold", None)
    return statement


def _backwards(statements):
    return list(reversed(statements))
