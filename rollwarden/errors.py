"""The errors that the program raises (point 5)."""

# Python refuses to write out a number with some thousands of digits.
LARGE = 10 ** 60


def word_for(part):
    """Returns a word for a string or a number of any size, or for a part of another kind."""
    if isinstance(part, str):
        return part
    if not isinstance(part, int):
        return "a part of another kind"
    if -LARGE < part < LARGE:
        return str(part)
    return "a large number"


def message_for(value):
    """Returns the message of an error with this value, which may be any value."""
    if isinstance(value, tuple):
        return "(" + ", ".join([word_for(part) for part in value]) + ")"
    return word_for(value)


class RollError(ValueError):
    """The base of all errors of the program; `value` tells what is wrong."""

    def __init__(self, value):
        ValueError.__init__(self, message_for(value))
        self.value = value


class BadProgram(RollError):
    """A program is refused; the value is the name of the part that is not right."""


class BadPlan(RollError):
    """A plan is refused; the value is the index of the step that is not right."""


class NotAllowed(RollError):
    """A state does not allow an act; the value is the act."""
