"""Whether a handler is right: its lines, tests, expressions and deeds (points 23 to 25)."""

from rollwarden.tuples import is_tuple, is_within

SIGNS = ("==", "!=", "<")
MOST_LINES = 8
MOST_ASKS = 2
GREATEST_VALUE = 3


def handler_fits(program, service, sizes, handler):
    """Tells whether a handler of a version of this service, with these sizes, is right."""
    if not is_tuple(handler, 1, MOST_LINES):
        return False
    for line in handler:
        if not line_fits(program, service, sizes, line):
            return False
    asks = [deed for _, deed in handler if deed[0] == "ask"]
    return len(asks) <= MOST_ASKS


def line_fits(program, service, sizes, line):
    """Tells whether a line is a right test and a right deed."""
    if not is_tuple(line, 2, 2):
        return False
    test, deed = line
    return test_fits(program, sizes, test) and deed_fits(program, service, sizes, deed)


def test_fits(program, sizes, test):
    """Tells whether a test is None or compares two right expressions."""
    if test is None:
        return True
    if not is_tuple(test, 3, 3):
        return False
    left, sign, right = test
    return sign in SIGNS and expression_fits(program, sizes, left) and expression_fits(program, sizes, right)


def expression_fits(program, sizes, expr):
    """Tells whether an expression is right in a version with these sizes."""
    if not is_tuple(expr, 1, 2):
        return False
    word = expr[0]
    if len(expr) == 1:
        return word in ("arg", "got")
    if word == "value":
        return is_within(expr[1], 0, GREATEST_VALUE)
    if word == "field":
        return is_within(expr[1], 0, len(sizes) - 1)
    if word == "switch":
        return is_within(expr[1], 0, program.switches - 1)
    return False


def deed_fits(program, service, sizes, deed):
    """Tells whether a deed in a handler of this service is right."""
    if not is_tuple(deed, 2, 3):
        return False
    word = deed[0]
    if len(deed) == 2:
        return word == "answer" and expression_fits(program, sizes, deed[1])
    if word == "set":
        return is_within(deed[1], 0, len(sizes) - 1) and expression_fits(program, sizes, deed[2])
    if word == "add":
        return is_within(deed[1], 0, len(sizes) - 1) and is_within(deed[2], 0, GREATEST_VALUE)
    if word == "ask":
        return is_of_later_service(program, service, deed[1]) and expression_fits(program, sizes, deed[2])
    return False


def is_of_later_service(program, service, question):
    """Tells whether a question exists and its service stands behind this one."""
    return is_within(question, 0, len(program.questions) - 1) and program.questions[question][0] > service
