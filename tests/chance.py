"""Programs and plans made by chance. Each seed always makes the same ones."""

import random

from rollwarden.plans import Plan
from rollwarden.program import Program
from rollwarden.records import record_count


def expression(rng, sizes, switches):
    kinds = ["value", "arg", "got", "field", "field"] + ["switch"] * (switches > 0)
    kind = rng.choice(kinds)
    if kind == "value":
        return ("value", rng.randrange(4))
    if kind == "field":
        return ("field", rng.randrange(len(sizes)))
    if kind == "switch":
        return ("switch", rng.randrange(switches))
    return (kind,)


def line(rng, service, sizes, questions, switches):
    test = None
    if rng.random() < 0.4:
        sides = [expression(rng, sizes, switches) for _ in range(2)]
        test = (sides[0], rng.choice(["==", "!=", "<"]), sides[1])
    later = [index for index, question in enumerate(questions) if question[0] > service]
    kind = rng.choice(["set", "add", "answer"] + ["ask", "ask"] * (len(later) > 0))
    if kind == "set":
        return (test, ("set", rng.randrange(len(sizes)), expression(rng, sizes, switches)))
    if kind == "add":
        return (test, ("add", rng.randrange(len(sizes)), rng.randrange(4)))
    if kind == "ask":
        return (test, ("ask", rng.choice(later), expression(rng, sizes, switches)))
    return (test, ("answer", expression(rng, sizes, switches)))


def handler(rng, service, sizes, questions, switches):
    lines = []
    for _ in range(rng.randint(1, 3)):
        made = line(rng, service, sizes, questions, switches)
        if made[1][0] != "ask" or sum(other[1][0] == "ask" for other in lines) < 2:
            lines.append(made)
    return tuple(lines) + ((None, ("answer", expression(rng, sizes, switches))),)


def table(rng, entries, records):
    if rng.random() < 0.6:
        return tuple(min(number, records - 1) for number in range(entries))
    return tuple(rng.randrange(records) for _ in range(entries))


def versions(rng, service, questions, switches):
    made = []
    handlers = None
    for version in range(rng.choice([1, 2, 2, 3])):
        sizes = tuple(rng.randint(1, 3) for _ in range(rng.choice([1, 1, 2])))
        if made and rng.random() < 0.5:
            sizes = made[-1][0]
        # Often a version does the same as the one below it, so that some plans keep one version for the clients.
        if handlers is None or sizes != made[-1][0] or rng.random() < 0.4:
            handlers = tuple(
                handler(rng, service, sizes, questions, switches) if owner == service and rng.random() < 0.9 else None
                for owner, _, _ in questions)
        below = record_count(made[-1][0]) if made else 0
        own = record_count(sizes)
        up = table(rng, below, own)
        down = table(rng, own if made else 0, below)
        made.append((sizes, up, down, handlers))
    return tuple(made)


def program_by_chance(seed):
    """A small program."""
    rng = random.Random(seed)
    switches = rng.choice([0, 0, 1, 2])
    count = rng.choice([1, 1, 2, 2, 3])
    questions = tuple(
        (rng.randrange(count), rng.randint(1, 2), rng.randint(1, 3)) for _ in range(rng.choice([1, 2, 2, 3])))
    services = tuple((rng.choice([1, 1, 2]), versions(rng, index, questions, switches)) for index in range(count))
    releases = tuple(
        (tuple(rng.randrange(len(known)) for _, known in services), tuple(rng.randrange(2) for _ in range(switches)))
        for _ in range(rng.randint(1, 4)))
    return Program(
        questions=questions,
        services=services,
        releases=releases,
        switches=switches,
        clients=rng.choice([1, 1, 2]),
        asks=rng.choice([0, 1, 1, 2]),
        losses=rng.choice([0, 0, 0, 1]),
        doubles=rng.choice([0, 0, 0, 1]),
        crashes=rng.choice([0, 0, 0, 1]),
    )


def step(rng, program):
    service = rng.randrange(len(program.services))
    instances, known = program.services[service]
    version = rng.randrange(len(known))
    made = [("raise", service, rng.randrange(instances), version)] * 3
    made += [("move", service, version), ("drained", service, version), ("final",)]
    if program.switches:
        made.append(("flip", rng.randrange(program.switches), rng.randrange(2)))
    return rng.choice(made)


def plan_by_chance(program, seed):
    """A small plan for a program."""
    rng = random.Random(seed)
    steps = [step(rng, program) for _ in range(rng.randrange(4))]
    places = sorted(rng.randint(0, len(steps)) for _ in range(2 * rng.randrange(3)))
    for index, place in reversed(list(enumerate(places))):
        turning = ("turned",) if index % 2 else ("turn", rng.randrange(len(program.releases)))
        steps.insert(place, turning)
    return Plan(program, steps, undo=rng.random() < 0.4)


def case(seed):
    """A program and a plan for it."""
    program = program_by_chance(seed)
    return program, plan_by_chance(program, seed + 1)
