"""Running handlers (points 23, 24, 25, 30 and 31)."""

from rollwarden.records import number_of, record_at
from rollwarden.tuples import replaced


def value_of(expr, fields, values, arg, got):
    """Returns the value of an expression."""
    word = expr[0]
    if word == "arg":
        return arg
    if word == "got":
        return got
    if word == "field":
        return fields[expr[1]]
    if word == "switch":
        return values[expr[1]]
    return expr[1]


def holds(test, fields, values, arg, got):
    """Tells whether a test holds."""
    if test is None:
        return True
    left = value_of(test[0], fields, values, arg, got)
    right = value_of(test[2], fields, values, arg, got)
    sign = test[1]
    if sign == "==":
        return left == right
    if sign == "!=":
        return left != right
    return left < right


def outcome_of(program, question, deed, value):
    """Returns the outcome of a deed that ends a run of this question's handler; `value` is that of its expression."""
    if deed[0] == "ask":
        return ("ask", deed[1], value % program.questions[deed[1]][1])
    return ("answer", value % program.questions[question][2])


def changed_fields(sizes, fields, deed, values, arg, got):
    """Returns the record behind a deed that sets a field or adds to it."""
    field = deed[1]
    if deed[0] == "add":
        value = fields[field] + deed[2]
    else:
        value = value_of(deed[2], fields, values, arg, got)
    return replaced(fields, field, value % sizes[field])


def run(program, service, version, question, arg, values, line, got, number):
    """Runs a handler from a line on; returns the record's number, the next line and the outcome (point 30)."""
    sizes, _, _, handlers = program.services[service][1][version]
    handler = handlers[question]
    if handler is None:
        return (number, 0, ("answer", -1))
    fields = record_at(sizes, number)
    for index in range(line, len(handler)):
        test, deed = handler[index]
        if not holds(test, fields, values, arg, got):
            continue
        if deed[0] in ("set", "add"):
            fields = changed_fields(sizes, fields, deed, values, arg, got)
        else:
            # In both deeds that end a run, the expression stands last.
            value = value_of(deed[-1], fields, values, arg, got)
            return (number_of(sizes, fields), index + 1, outcome_of(program, question, deed, value))
    return (number_of(sizes, fields), len(handler), ("answer", 0))


def whole(program, release, records, question, arg):
    """Does a question whole in a release; returns the records that are left and the answer (point 31)."""
    versions, values = program.releases[release]
    service = program.questions[question][0]
    left = records
    line = 0
    got = -1
    while True:
        number, line, outcome = run(
            program, service, versions[service], question, arg, values, line, got, left[service])
        left = replaced(left, service, number)
        if outcome[0] == "answer":
            return (left, outcome[1])
        left, got = whole(program, release, left, outcome[1], outcome[2])
