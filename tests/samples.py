"""Programs for the tests, and runs of them."""

from rollwarden.machine import after, start
from rollwarden.plans import Plan
from rollwarden.program import Program


def answer(expr):
    """A line that answers."""
    return (None, ("answer", expr))


def ask(question, expr):
    """A line that asks."""
    return (None, ("ask", question, expr))


ARG = ("arg",)
GOT = ("got",)


def counter(**more):
    """A service with two versions. Version 0 counts and answers the count; version 1 refuses question 1."""
    count = (((ARG, "==", ("value", 1)), ("add", 0, 1)), answer(("field", 0)))
    store = ((None, ("set", 0, ("switch", 0))), answer(("field", 1)))
    low = ((4,), (), (), (count, (answer(("value", 1)),)))
    # No table is the way back of the other one, so each conversion can be seen.
    high = ((2, 2), (3, 2, 1, 0), (0, 0, 1, 3), (store, None))
    return Program(
        questions=((0, 2, 4), (0, 1, 2)),
        services=((2, (low, high)),),
        releases=(((0,), (0,)), ((1,), (1,))),
        switches=1,
        **more,
    )


def chain(instances=(1, 1, 1), **more):
    """Three services. The first one asks the second one, which asks the third one; each answers what it gets."""
    handlers = (
        (ask(1, ARG), answer(GOT)),
        (ask(2, ARG), answer(GOT)),
        ((None, ("set", 0, ARG)), answer(("field", 0))),
    )
    services = []
    for service, handler in enumerate(handlers):
        entries = tuple(handler if question == service else None for question in range(3))
        services.append((instances[service], (((2,), (), (), entries),)))
    return Program(
        questions=((0, 2, 3), (1, 2, 3), (2, 2, 3)),
        services=tuple(services),
        releases=(((0, 0, 0), ()),),
        **more,
    )


def twice(**more):
    """Two services. The first one counts, asks the second one, keeps the answer, and asks again."""
    front = (
        (None, ("add", 0, 1)),
        ask(1, ARG),
        (None, ("set", 1, GOT)),
        ask(1, ("value", 3)),
        answer(GOT),
    )
    back = ((None, ("add", 0, 2)), answer(("field", 0)))
    return Program(
        questions=((0, 2, 4), (1, 2, 3)),
        services=(
            (1, (((3, 4), (), (), (front, None)),)),
            (2, (((3,), (), (), (None, back)),)),
        ),
        releases=(((0, 0), ()),),
        **more,
    )


def stairs(**more):
    """One service with one instance and three versions, each table of which can be told from the others."""
    handlers = (((None, ("answer", ("field", 0))),),)
    return Program(
        questions=((0, 1, 4),),
        services=((1, (
            ((4,), (), (), handlers),
            ((4,), (1, 2, 3, 0), (0, 2, 2, 1), handlers),
            ((4,), (2, 2, 0, 1), (3, 0, 1, 1), handlers),
        )),),
        releases=(((0,), (0, 1)), ((1,), (1, 0))),
        switches=2,
        **more,
    )


def switching(**more):
    """One service with one instance, which answers with the value of the switch; the releases differ in the value."""
    return Program(
        questions=((0, 1, 2),),
        services=((1, (((1,), (), (), ((answer(("switch", 0)),),)),)),),
        releases=(((0,), (0,)), ((0,), (1,))),
        switches=1,
        **more,
    )


def growing(**more):
    """One service with two instances. Version 0 counts up to 1, and version 1 up to 2; each answers the count."""
    count = ((None, ("add", 0, 1)), answer(("field", 0)))
    low = ((2,), (), (), (count,))
    high = ((3,), (0, 1), (0, 1, 1), (count,))
    return Program(
        questions=((0, 1, 3),),
        services=((2, (low, high)),),
        releases=(((0,), ()), ((1,), ())),
        **more,
    )


def same(**more):
    """One service with two instances and two versions, which keep the same value and answer the same."""
    keep = (((ARG, "==", ("value", 1)), ("set", 0, ARG)), answer(("field", 0)))
    low = ((2,), (), (), (keep,))
    high = ((2, 2), (1, 3), (0, 0, 1, 1), (keep,))
    return Program(
        questions=((0, 2, 2),),
        services=((2, (low, high)),),
        releases=(((0,), ()), ((1,), ())),
        **more,
    )


def two_stores(**more):
    """Two services with two versions each. The first one asks the second one, which counts; no table undoes another."""
    front = ((None, ("add", 0, 1)), ask(1, ARG), answer(GOT))
    back = ((None, ("add", 0, 2)), answer(("field", 0)))
    return Program(
        questions=((0, 1, 4), (1, 1, 4)),
        services=(
            (1, (((2,), (), (), (front, None)), ((3,), (2, 1), (1, 1, 0), (front, None)))),
            (1, (((3,), (), (), (None, back)), ((4,), (3, 0, 1), (2, 2, 1, 0), (None, back)))),
        ),
        releases=(((0, 0), ()), ((1, 1), ()), ((0, 1), ())),
        **more,
    )


def play(program, plan, run):
    """The state behind a run from the first state, and the signs of its acts."""
    state = start(program)
    signs = []
    for act in run:
        state, sign = after(program, plan, state, act)
        signs.append(sign)
    return state, signs


def behind(program, run, steps=(), undo=False):
    """The state behind a run of a plan with these steps."""
    return play(program, Plan(program, steps, undo=undo), run)[0]
