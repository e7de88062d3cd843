"""Crashes (point 56)."""

from rollwarden.states import CRASHES, INSTANCE, INSTANCES, cells, origin_of, with_one_less, work_of
from rollwarden.tuples import replaced


def asker_of(item):
    """Returns a list with the pair (service, instance) that asked for a message or a work; empty for a client."""
    origin, service, instance = origin_of(item)
    if origin == INSTANCE:
        return [(service, instance)]
    return []


def linked(state, service, instance):
    """Returns the pairs (service, instance) whose works go if the work of this instance goes."""
    asked = [
        (other, index) for other, index, _, work, _ in cells(state)
        if work is not None and asker_of(work) == [(service, instance)]
    ]
    return asker_of(work_of(state, service, instance)) + asked


def lost_works(state, service, instance):
    """Returns the pairs (service, instance) whose works a crash of this instance removes."""
    _, _, queue = state[INSTANCES][service][instance]
    pending = [(service, instance)]
    for message in queue:
        pending.extend(asker_of(message))
    lost = []
    while len(pending) > 0:
        pair = pending.pop()
        if pair not in lost and work_of(state, pair[0], pair[1]) is not None:
            lost.append(pair)
            pending.extend(linked(state, pair[0], pair[1]))
    return lost


def kept_of(cell, lost):
    """Returns the tuple (version, work, queue) of an instance without its lost work and the messages of such works."""
    service, instance, version, work, queue = cell
    kept = tuple(message for message in queue if len(asker_of(message)) == 0 or asker_of(message)[0] not in lost)
    if (service, instance) in lost:
        return (version, None, kept)
    return (version, work, kept)


def after_crash(state, service, instance):
    """Returns the state behind a crash of an instance."""
    lost = lost_works(state, service, instance)
    rows = [[] for _ in state[INSTANCES]]
    for cell in cells(state):
        version, work, queue = kept_of(cell, lost)
        # With the instance all its messages go, those of clients too.
        if cell[:2] == (service, instance):
            queue = ()
        rows[cell[0]].append((version, work, queue))
    left = replaced(state, INSTANCES, tuple(tuple(row) for row in rows))
    return with_one_less(left, CRASHES)
