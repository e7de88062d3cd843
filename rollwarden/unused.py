"""Versions that are not used any more (points 85 and 86)."""

from rollwarden.effects import behind
from rollwarden.machine import acts, start
from rollwarden.states import BACK, INSTANCES, PLACE, RECORDS, begun


def span(first, last):
    """Returns the list of two versions and all between them, in ascending order."""
    return list(range(min(first, last), max(first, last) + 1))


def used_by_run(program, state, service, instance, work):
    """Returns the service and the versions that a run of this work by an instance uses."""
    version, _, _ = state[INSTANCES][service][instance]
    _, _, _, handlers = program.services[service][1][version]
    # A refused question leaves the record as it is.
    if handlers[work[0]] is None:
        return (service, [version])
    form, _ = state[RECORDS][service]
    return (service, span(form, version))


def used_by_step(plan, state):
    """Returns the service and the versions that the next step uses, or None."""
    step = plan.steps[state[PLACE]]
    if step[0] != "move":
        return None
    _, service, version = step
    form, _ = state[RECORDS][service]
    return (service, span(form, version))


def used_versions(program, plan, state, act):
    """Returns the service and the list of its versions that an allowed act uses, or None if it uses none."""
    if act[0] == "step":
        return used_by_step(plan, state)
    if act[0] not in ("take", "go"):
        return None
    _, service, instance, _ = act
    _, work, queue = state[INSTANCES][service][instance]
    if act[0] == "take":
        work = begun(queue[0])
    return used_by_run(program, state, service, instance, work)


def reached(program, plan, limit):
    """Returns the list of all states that are reached, or None if there are more than `limit`."""
    states = [start(program)]
    seen = set(states)
    taken = 0
    while taken < len(states) <= limit:
        state = states[taken]
        taken += 1
        for act in acts(program, plan, state):
            next_state, _ = behind(program, plan, state, act)
            if next_state not in seen:
                seen.add(next_state)
                states.append(next_state)
    if len(states) > limit:
        return None
    return states


def first_settled(plan):
    """Returns the place behind the first final step; 0 if the plan has none."""
    for index, step in enumerate(plan.steps):
        if step[0] == "final":
            return index + 1
    return 0


def is_using(program, plan, state, service, version):
    """Tells whether a state allows an act that uses the version."""
    for act in acts(program, plan, state):
        used = used_versions(program, plan, state, act)
        if used is not None and used[0] == service and version in used[1]:
            return True
    return False


def unused_from(program, plan, service, version, limit):
    """Returns from which place on no settled state uses the version: at some place, at none, or too many to tell."""
    states = reached(program, plan, limit)
    if states is None:
        return ("many",)
    place = first_settled(plan)
    for state in states:
        # A place before this one either does not count, as it is not settled, or is refused already.
        if state[BACK] == 0 and state[PLACE] >= place and is_using(program, plan, state, service, version):
            place = state[PLACE] + 1
    if place > len(plan.steps):
        return ("never",)
    return ("from", place)
