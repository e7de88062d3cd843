"""Ideal states: what one version of everything would be in at a moment of a run (points 70 to 74)."""

from rollwarden.forms import convert
from rollwarden.lines import whole
from rollwarden.states import BACK, PLACE
from rollwarden.tuples import replaced

# The parts of an ideal state.
LEVEL = 0
ENTRIES = 2

# What the entry of a client begins with while its question is open, and after it is done.
UNDONE = 0
DONE = 1


def first_ideal(program):
    """Returns the first ideal state."""
    return (0, (0,) * len(program.services), ((),) * program.clients)


def hidden(program, plan, state, ideal):
    """Returns the list of the ideal states behind one hidden act: those of the clients, then that of the level."""
    levels = next_levels(plan, state, ideal[LEVEL])
    return behind_questions(program, plan, ideal) + [at_level(program, plan, ideal, level) for level in levels]


def behind_questions(program, plan, ideal):
    """Returns the ideal states in which one of the open questions is done, in the order of the clients."""
    level, records, entries = ideal
    found = []
    for client, entry in enumerate(entries):
        if len(entry) > 0 and entry[0] == UNDONE:
            _, question, arg = entry
            left, answer = whole(program, plan.release_of(level), records, question, arg)
            found.append((level, left, replaced(entries, client, (DONE, answer))))
    return found


def next_levels(plan, state, level):
    """Returns a list with the level to which a hidden act beside this state leads; it is empty if there is none."""
    if state[BACK] == 0 and plan.is_open(level + 1, state[PLACE]):
        return [level + 1]
    if state[BACK] == 1 and plan.is_open(level, state[PLACE]):
        return [level - 1]
    return []


def at_level(program, plan, ideal, level):
    """Returns the ideal state with another level and the records converted to the versions of its release."""
    before, records, entries = ideal
    firsts, _ = program.releases[plan.release_of(before)]
    lasts, _ = program.releases[plan.release_of(level)]
    converted = [
        convert(program, service, firsts[service], lasts[service], number) for service, number in enumerate(records)
    ]
    return (level, tuple(converted), entries)


def beside(program, plan, state, ideals):
    """Returns the tuple of all ideal states that hidden acts lead to from these, these included, in ascending order."""
    seen = set(ideals)
    pending = sorted(seen)
    while len(pending) > 0:
        ideal = pending.pop()
        for other in hidden(program, plan, state, ideal):
            if other not in seen:
                seen.add(other)
                pending.append(other)
    return tuple(sorted(seen))


def signed(ideals, sign):
    """Returns the list of what a sign leaves of a list of ideal states, in their order."""
    if len(sign) == 0:
        return list(ideals)
    word = sign[0]
    if word == "asked":
        _, client, question, arg = sign
        return [with_entry(ideal, client, (UNDONE, question, arg)) for ideal in ideals]
    if word == "answered":
        _, client, answer = sign
        return [with_entry(ideal, client, ()) for ideal in ideals if ideal[ENTRIES][client] == (DONE, answer)]
    level = sign[1]
    # A turn that is undone has brought back the release that was in force before it.
    if word == "returned":
        level = sign[1] - 1
    return [ideal for ideal in ideals if ideal[LEVEL] == level]


def with_entry(ideal, client, entry):
    """Returns the ideal state in which a client has this entry."""
    level, records, entries = ideal
    return (level, records, replaced(entries, client, entry))
