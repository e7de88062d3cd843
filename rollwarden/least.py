"""The least row of offers whose plan gives all wants and explains every run (points 80 and 81)."""

from rollwarden.judge import judge
from rollwarden.plans import Plan, first_misfit


def steps_of(offers, row):
    """Returns the list of the steps of a row's offers, one offer after the other."""
    steps = []
    for index in row:
        steps.extend(offers[index])
    return steps


def gives(plan, want):
    """Tells whether a plan gives a want behind all its steps."""
    place = len(plan.steps)
    if want[0] == "instance":
        _, service, instance, version = want
        return plan.version_at(service, instance, place) == version
    if want[0] == "switch":
        _, switch, value = want
        return plan.value_at(switch, place) == value
    return plan.release_of(len(plan.turns)) == want[1]


def word_of(program, steps, wants, limit):
    """Returns the first word of the verdict; None if the steps are not a plan, or do not give all wants."""
    if first_misfit(program, steps) is not None:
        return None
    plan = Plan(program, steps)
    for want in wants:
        if not gives(plan, want):
            return None
    return judge(program, plan, limit)[0]


def is_hopeless(program, steps):
    """Tells whether no steps behind these make them a plan."""
    misfit = first_misfit(program, steps)
    # A turn without its end is told by the number of steps; it may still get its end.
    return misfit is not None and misfit < len(steps)


def longer_rows(program, offers, rows):
    """Returns the rows with one offer more than these, in ascending order, but none that begins with a hopeless one."""
    longer = []
    for row in rows:
        if not is_hopeless(program, steps_of(offers, row)):
            longer.extend([(*row, index) for index in range(len(offers)) if index not in row])
    return longer


def least(program, offers, wants, limit):
    """Returns the first row whose verdict is "one", or None, and the list of the rows before it that are "many"."""
    open_rows = []
    rows = [()]
    while len(rows) > 0:
        for row in rows:
            word = word_of(program, steps_of(offers, row), wants, limit)
            if word == "one":
                return (row, open_rows)
            if word == "many":
                open_rows.append(row)
        rows = longer_rows(program, offers, rows)
    return (None, open_rows)
