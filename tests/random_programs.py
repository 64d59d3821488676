"""Random programs, for the tests."""
from armwarrant.errors import FlowTooLong
from armwarrant.programs.flows import flow_of
from armwarrant.programs.program import Program

NAMES = ("a", "b", "c")


def random_statements(chance, callable_names, braces):
    return [random_statement(chance, callable_names, braces) for _ in range(chance.choice((0, 1, 1, 2, 2, 3)))]


def random_statement(chance, callable_names, braces):
    words = ["move", "set", "wait", "take", "release"]
    if braces < 8:
        words += ["if", "if", "repeat"]
    if callable_names:
        words += ["call"]
    word = chance.choice(words)
    if word in ("set", "wait"):
        return (word, chance.choice(NAMES), chance.random() < 0.5)
    if word == "release":
        return (word,)
    if word == "call":
        return (word, chance.choice(callable_names))
    if word == "if":
        lists = [random_statements(chance, callable_names, braces + 1) for _ in range(2)]
        if chance.random() < 0.4:
            lists[1] = []
        return (word, chance.choice(NAMES), *lists)
    if word == "repeat":
        return (word, chance.choice((1, 1, 2, 3)), random_statements(chance, callable_names, braces + 1))
    return (word, chance.choice(NAMES))


def random_program(chance):
    """Return a program whose routines call only those that stand behind them."""
    names = [f"r{k}" for k in range(chance.choice((0, 0, 1, 2, 3)))]
    routines = [(name, random_statements(chance, names[k + 1:], 1)) for k, name in enumerate(names)]
    return Program(routines, random_statements(chance, names, 0) + random_statements(chance, names, 0))


def random_program_with_flow(chance):
    while True:
        program = random_program(chance)
        try:
            flow_of(program)
        except FlowTooLong:
            continue
        return program
