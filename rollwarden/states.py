"""The parts of a state (points 50 and 51)."""

from rollwarden.tuples import replaced

# Where the parts of a state stand in its tuple.
PLACE = 0
BACK = 1
VALUES = 2
RECORDS = 3
INSTANCES = 4
CLIENTS = 5
ASKED = 6
BUDGETS = 7

# Where the budgets stand in their tuple.
LOSSES = 0
DOUBLES = 1
CRASHES = 2

# The two kinds of origin.
CLIENT = 0
INSTANCE = 1

MOST_MESSAGES = 2


def cells(state):
    """Returns a tuple (service, instance, version, work, queue) for each instance, in ascending order."""
    return [
        (service, instance, version, work, queue)
        for service, row in enumerate(state[INSTANCES])
        for instance, (version, work, queue) in enumerate(row)
    ]


def has_room(queue):
    """Tells whether a queue has room for a message."""
    return len(queue) < MOST_MESSAGES


def work_of(state, service, instance):
    """Returns the work of an instance, or None."""
    _, work, _ = state[INSTANCES][service][instance]
    return work


def origin_of(item):
    """Returns the tuple (origin, a, b) of a message or a work."""
    return item[-3:]


def begun(message):
    """Returns the work that begins with a message."""
    question, arg, origin, a, b = message
    return (question, arg, 0, -1, 0, origin, a, b)


def with_instance(state, service, instance, entry):
    """Returns the state in which an instance has this tuple (version, work, queue)."""
    instances = state[INSTANCES]
    row = replaced(instances[service], instance, entry)
    return replaced(state, INSTANCES, replaced(instances, service, row))


def with_work(state, service, instance, work):
    """Returns the state in which an instance has this work, or none if it is None."""
    version, _, queue = state[INSTANCES][service][instance]
    return with_instance(state, service, instance, (version, work, queue))


def with_queue(state, service, instance, queue):
    """Returns the state in which an instance has this queue."""
    version, work, _ = state[INSTANCES][service][instance]
    return with_instance(state, service, instance, (version, work, queue))


def with_message(state, service, instance, message):
    """Returns the state with a message at the end of the queue of an instance."""
    _, _, queue = state[INSTANCES][service][instance]
    return with_queue(state, service, instance, (*queue, message))


def with_client(state, client, entry):
    """Returns the state in which a client waits for an answer to this entry, or does not wait if it is None."""
    return replaced(state, CLIENTS, replaced(state[CLIENTS], client, entry))


def with_one_less(state, budget):
    """Returns the state in which 1 is taken off a budget."""
    budgets = state[BUDGETS]
    return replaced(state, BUDGETS, replaced(budgets, budget, budgets[budget] - 1))
