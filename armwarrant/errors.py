"""The errors that the program raises."""


class ArmwarrantError(ValueError):
    """The base class of all errors that the program raises."""


class InvalidArm(ArmwarrantError):
    """A value of a joint, a body or an arm is not allowed."""

    def __init__(self, field):
        super().__init__(f"no arm can have this: {field}")
        self.field = field


class InvalidShape(ArmwarrantError):
    """A value of a shape is not allowed."""

    def __init__(self, field):
        super().__init__(f"no shape can have this: {field}")
        self.field = field


class InvalidMove(ArmwarrantError):
    """A row of values does not fit the arm."""

    def __init__(self, field):
        super().__init__(f"the row does not fit the arm: {field}")
        self.field = field


class OutOfRange(ArmwarrantError):
    """A number is out of its range."""

    def __init__(self, field):
        super().__init__(f"the number is out of its range: {field}")
        self.field = field


class InvalidProgram(ArmwarrantError):
    """A text is no program."""

    def __init__(self, line, column, expected):
        super().__init__(f"line {line}, column {column}: expected {expected}")
        self.line = line
        self.column = column
        self.expected = expected


class MissingRoutine(ArmwarrantError):
    """A program has no flow, since it calls a routine that it does not have."""

    def __init__(self, name):
        super().__init__(f"no routine has this name: {name}")
        self.name = name


class RecursiveRoutine(ArmwarrantError):
    """A program has no flow, since a routine calls itself."""

    def __init__(self, name):
        super().__init__(f"the routine calls itself: {name}")
        self.name = name


class FlowTooLong(ArmwarrantError):
    """A program has no flow, since it is too long."""


class InvalidEdit(ArmwarrantError):
    """The edit with this index cannot be made."""

    def __init__(self, at):
        super().__init__(f"the edit with this index cannot be made: {at}")
        self.at = at


class UnknownArm(ArmwarrantError):
    """No arm has this number."""


class InvalidPaper(ArmwarrantError):
    """A text is no certificate, meeting, cell or warrant."""


class NotReady(ArmwarrantError):
    """A cell cannot be run."""


class NotSafe(ArmwarrantError):
    """A cell cannot be run, since the first state of its plan is not safe."""


class NotNow(ArmwarrantError):
    """An event cannot happen now."""
