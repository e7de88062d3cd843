"""Runs of instances (points 53 and 54)."""

from rollwarden.forms import convert
from rollwarden.lines import run
from rollwarden.states import (
    CLIENTS, INSTANCE, INSTANCES, RECORDS, VALUES, has_room, origin_of, with_client, with_message, with_work, work_of)
from rollwarden.tuples import replaced


def result_of(program, state, service, instance, work):
    """Runs the handler of this work on an instance; returns the record behind it, the line and the outcome."""
    version, _, _ = state[INSTANCES][service][instance]
    question, arg, line, got = work[:4]
    form, number = state[RECORDS][service]
    _, _, _, handlers = program.services[service][1][version]
    # A refused question leaves the record in the form in which it lies.
    if handlers[question] is None:
        return ((form, number), 0, ("answer", -1))
    own = convert(program, service, form, version, number)
    left, behind, outcome = run(program, service, version, question, arg, state[VALUES], line, got, own)
    return ((version, left), behind, outcome)


def targets_of(program, state, outcome):
    """Returns the instances to which a run with this outcome may send its question; -1 stands for no question."""
    if outcome[0] == "answer":
        return [-1]
    return roomy(state, program.questions[outcome[1]][0])


def roomy(state, service):
    """Returns the instances of a service whose queues have room."""
    return [instance for instance, (_, _, queue) in enumerate(state[INSTANCES][service]) if has_room(queue)]


def after_run(program, state, service, instance, work, target):
    """Returns the state and the sign behind a run of an instance; its question goes to the instance `target`."""
    record, line, outcome = result_of(program, state, service, instance, work)
    stored = replaced(state, RECORDS, replaced(state[RECORDS], service, record))
    if outcome[0] == "answer":
        return delivered(with_work(stored, service, instance, None), origin_of(work), outcome[1])
    question, arg = work[:2]
    waiting = with_work(stored, service, instance, (question, arg, line, -1, 1, *origin_of(work)))
    _, asked, asked_arg = outcome
    message = (asked, asked_arg, INSTANCE, service, instance)
    return (with_message(waiting, program.questions[asked][0], target, message), ())


def delivered(state, origin, answer):
    """Returns the state and the sign behind the delivery of an answer to its origin."""
    kind, a, b = origin
    if kind == INSTANCE:
        question, arg, line = work_of(state, a, b)[:3]
        asker = origin_of(work_of(state, a, b))
        return (with_work(state, a, b, (question, arg, line, answer, 0, *asker)), ())
    waits = state[CLIENTS][a]
    # The second answer to a doubled question comes when the client waits no more, or for another serial.
    if waits is None or waits[0] != b:
        return (state, ())
    return (with_client(state, a, None), ("answered", a, answer))
