"""The machine: its first state, the acts that a state allows, and what is behind them (points 50 to 58)."""

from rollwarden.effects import behind
from rollwarden.errors import NotAllowed
from rollwarden.runs import result_of, roomy, targets_of
from rollwarden.states import (
    ASKED, BUDGETS, CLIENT, CLIENTS, CRASHES, DOUBLES, LOSSES, begun, cells, has_room, origin_of)
from rollwarden.steps import can_step, can_turn_back, can_unstep
from rollwarden.tuples import is_number


def start(program):
    """Returns the first state."""
    versions, values = program.releases[0]
    records = tuple((version, 0) for version in versions)
    rows = [((version, None, ()),) * service[0] for service, version in zip(program.services, versions)]
    clients = (None,) * program.clients
    budgets = (program.losses, program.doubles, program.crashes)
    return (0, 0, values, records, tuple(rows), clients, 0, budgets)


def acts(program, plan, state):
    """Returns the list of the acts that a state allows, in their order."""
    return [
        *ask_acts(program, state),
        *take_acts(program, state),
        *go_acts(program, state),
        *lose_acts(state),
        *double_acts(state),
        *crash_acts(state),
        *plan_acts(plan, state),
    ]


def after(program, plan, state, act):
    """Returns the state and the sign behind an act; raises NotAllowed if the state does not allow it."""
    if not has_plain_parts(act) or act not in acts(program, plan, state):
        raise NotAllowed(act)
    return behind(program, plan, state, act)


def has_plain_parts(act):
    """Tells whether all parts of an act are strings and numbers."""
    # To Python, ("crash", False, 0) is equal to ("crash", 0, 0).
    return all(isinstance(part, str) or is_number(part) for part in act)


def ask_acts(program, state):
    """Returns the acts by which clients ask."""
    if state[ASKED] >= program.asks:
        return []
    return [
        ("ask", client, question, arg, instance)
        for client, waits in enumerate(state[CLIENTS]) if waits is None
        for question, (service, args, _) in enumerate(program.questions)
        for arg in range(args)
        for instance in roomy(state, service)
    ]


def run_acts(program, state, word, service, instance, work):
    """Returns the acts with this first word by which an instance runs the handler of this work."""
    _, _, outcome = result_of(program, state, service, instance, work)
    return [(word, service, instance, target) for target in targets_of(program, state, outcome)]


def take_acts(program, state):
    """Returns the acts by which instances take messages."""
    found = []
    for service, instance, _, work, queue in cells(state):
        if work is None and len(queue) > 0:
            found.extend(run_acts(program, state, "take", service, instance, begun(queue[0])))
    return found


def go_acts(program, state):
    """Returns the acts by which instances go on with their works."""
    found = []
    for service, instance, _, work, _ in cells(state):
        if work is not None and work[4] == 0:
            found.extend(run_acts(program, state, "go", service, instance, work))
    return found


def is_from_client(message):
    """Tells whether a message comes from a client."""
    return origin_of(message)[0] == CLIENT


def lose_acts(state):
    """Returns the acts by which messages of clients are lost."""
    if state[BUDGETS][LOSSES] == 0:
        return []
    return [
        ("lose", service, instance, index)
        for service, instance, _, _, queue in cells(state)
        for index, message in enumerate(queue) if is_from_client(message)
    ]


def double_acts(state):
    """Returns the acts by which messages of clients are doubled."""
    if state[BUDGETS][DOUBLES] == 0:
        return []
    return [
        ("double", service, instance, index)
        for service, instance, _, _, queue in cells(state) if has_room(queue)
        for index, message in enumerate(queue) if is_from_client(message)
    ]


def crash_acts(state):
    """Returns the acts by which instances crash."""
    if state[BUDGETS][CRASHES] == 0:
        return []
    return [
        ("crash", service, instance)
        for service, instance, _, work, queue in cells(state) if work is not None or len(queue) > 0
    ]


def plan_acts(plan, state):
    """Returns the acts that do and undo the plan."""
    found = []
    if can_step(plan, state):
        found.append(("step",))
    if can_turn_back(plan, state):
        found.append(("turnback",))
    if can_unstep(plan, state):
        found.append(("unstep",))
    return found
