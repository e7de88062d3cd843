"""The steps of a plan: whether they can be done and undone, and what is behind them (points 40, 55, 57 and 58)."""

from rollwarden.forms import convert
from rollwarden.states import BACK, PLACE, RECORDS, VALUES, INSTANCES, cells, with_instance, work_of
from rollwarden.tuples import replaced


def is_idle(state, step):
    """Tells whether the step is no raise, or one of an instance that has no work."""
    if step[0] != "raise":
        return True
    return work_of(state, step[1], step[2]) is None


def is_drained(state, service, version):
    """Tells whether no instance of a service with this version has work or a message."""
    for other, _, running, work, queue in cells(state):
        if other == service and running == version and (work is not None or len(queue) > 0):
            return False
    return True


def can_step(plan, state):
    """Tells whether the next step exists and can be done."""
    place = state[PLACE]
    if state[BACK] == 1 or place >= len(plan.steps):
        return False
    step = plan.steps[place]
    if step[0] == "drained":
        return is_drained(state, step[1], step[2])
    return is_idle(state, step)


def can_turn_back(plan, state):
    """Tells whether the plan can begin to be undone."""
    place = state[PLACE]
    return plan.undo and state[BACK] == 0 and place > plan.fixed(place)


def can_unstep(plan, state):
    """Tells whether the last step that is done can be undone."""
    place = state[PLACE]
    if state[BACK] == 0 or place == 0:
        return False
    step = plan.steps[place - 1]
    return step[0] != "final" and is_idle(state, step)


def moved_to(program, plan, state, step, place):
    """Returns the state at another place, with what this step changes as the place tells it (point 57)."""
    there = replaced(state, PLACE, place)
    if step[0] == "raise":
        _, service, instance, _ = step
        _, work, queue = state[INSTANCES][service][instance]
        return with_instance(there, service, instance, (plan.version_at(service, instance, place), work, queue))
    if step[0] == "flip":
        return replaced(there, VALUES, replaced(state[VALUES], step[1], plan.value_at(step[1], place)))
    if step[0] == "move":
        service = step[1]
        form, number = state[RECORDS][service]
        version = plan.form_at(service, place)
        record = (version, convert(program, service, form, version, number))
        return replaced(there, RECORDS, replaced(state[RECORDS], service, record))
    return there


def after_step(program, plan, state):
    """Returns the state and the sign behind the next step."""
    place = state[PLACE]
    step = plan.steps[place]
    sign = ()
    if step[0] == "turned":
        sign = ("turned", plan.turn_of(place))
    return (moved_to(program, plan, state, step, place + 1), sign)


def after_unstep(program, plan, state):
    """Returns the state and the sign behind the undoing of the last step that is done."""
    place = state[PLACE] - 1
    step = plan.steps[place]
    sign = ()
    if step[0] == "turn":
        sign = ("returned", plan.turn_of(place))
    return (moved_to(program, plan, state, step, place), sign)
