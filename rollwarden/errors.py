"""The errors that the program raises (point 5)."""


class RollError(ValueError):
    """The base of all errors of the program; `value` tells what is wrong."""

    def __init__(self, value):
        ValueError.__init__(self, str(value))
        self.value = value


class BadProgram(RollError):
    """A program is refused; the value is the name of the part that is not right."""


class BadPlan(RollError):
    """A plan is refused; the value is the index of the step that is not right."""


class NotAllowed(RollError):
    """A state does not allow an act; the value is the act."""
