"""What is behind an act that a state allows (points 53 to 58)."""

from rollwarden.crashes import after_crash
from rollwarden.runs import after_run
from rollwarden.states import (
    ASKED, BACK, CLIENT, DOUBLES, INSTANCES, LOSSES, begun, with_client, with_message, with_one_less, with_queue,
    work_of)
from rollwarden.steps import after_step, after_unstep
from rollwarden.tuples import replaced


def behind(program, plan, state, act):
    """Returns the state and the sign behind an act that the state allows."""
    word = act[0]
    if word == "ask":
        return after_ask(program, state, act)
    if word == "take":
        return after_take(program, state, act)
    if word == "go":
        _, service, instance, target = act
        return after_run(program, state, service, instance, work_of(state, service, instance), target)
    if word == "step":
        return after_step(program, plan, state)
    if word == "unstep":
        return after_unstep(program, plan, state)
    return (after_silent(state, act), ())


def after_silent(state, act):
    """Returns the state behind an act of one of the kinds that never have a sign."""
    word = act[0]
    if word == "lose":
        return after_loss(state, act)
    if word == "double":
        return after_double(state, act)
    if word == "crash":
        return after_crash(state, act[1], act[2])
    # The only other kind: the plan is turned back.
    return replaced(state, BACK, 1)


def after_ask(program, state, act):
    """Returns the state and the sign behind a question of a client."""
    _, client, question, arg, instance = act
    serial = state[ASKED]
    sent = with_message(state, program.questions[question][0], instance, (question, arg, CLIENT, client, serial))
    waiting = with_client(sent, client, (serial, question, arg))
    return (replaced(waiting, ASKED, serial + 1), ("asked", client, question, arg))


def after_take(program, state, act):
    """Returns the state and the sign behind the taking of the oldest message, and the run of it."""
    _, service, instance, target = act
    _, _, queue = state[INSTANCES][service][instance]
    taken = with_queue(state, service, instance, queue[1:])
    return after_run(program, taken, service, instance, begun(queue[0]), target)


def after_loss(state, act):
    """Returns the state behind the loss of a message."""
    _, service, instance, index = act
    _, _, queue = state[INSTANCES][service][instance]
    left = with_queue(state, service, instance, queue[:index] + queue[index + 1:])
    return with_one_less(left, LOSSES)


def after_double(state, act):
    """Returns the state behind the doubling of a message."""
    _, service, instance, index = act
    _, _, queue = state[INSTANCES][service][instance]
    return with_one_less(with_message(state, service, instance, queue[index]), DOUBLES)
