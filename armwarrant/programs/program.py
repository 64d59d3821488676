"""Programs: what one arm does."""


class Program:
    """Routines, each a name and its statements, and the statements of the body."""

    def __init__(self, routines, body):
        self.routines = [(name, _copied(statements)) for name, statements in routines]
        self.body = _copied(body)

    def routine(self, name):
        """Return the statements of the routine with a name, or None."""
        for known, statements in self.routines:
            if known == name:
                return statements
        return None

    def __eq__(self, other):
        """Return True if the other value is a program with the same routines and the same body."""
        return isinstance(other, Program) and self.routines == other.routines and self.body == other.body


def _copied(statements):
    """Return a copy of a list of statements, and of the lists within them."""
    return [_copied_statement(statement) for statement in statements]


def _copied_statement(statement):
    return tuple([_copied(member) if isinstance(member, list) else member for member in statement])
