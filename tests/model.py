"""A second reading of points 70 to 78 and 86, as plain as can be: whole runs and all orders, and nothing is kept."""

from rollwarden.judge import first_pair, next_pair
from rollwarden.lines import whole
from rollwarden.machine import acts, after, start


def runs(program, plan, longest):
    """All runs with up to so many acts, shorter ones first, and those of one length in the order of their acts."""
    found = [([], start(program))]
    while found and len(found[0][0]) <= longest:
        yield from (run for run, _ in found)
        found = [
            (run + [act], after(program, plan, state, act)[0])
            for run, state in found for act in acts(program, plan, state)]


def convert_one(program, service, first, last, number):
    """A record's number in another version."""
    known = program.services[service][1]
    while first != last:
        if first < last:
            first, number = first + 1, known[first + 1][1][number]
        else:
            first, number = first - 1, known[first][2][number]
    return number


def turn_releases(plan):
    """The releases of the levels."""
    return [0] + [step[1] for step in plan.steps if step[0] == "turn"]


def open_turn(plan, place):
    """The number of the turn that is open at a place, or None."""
    done = [step[0] for step in plan.steps[:place]]
    return done.count("turn") if done.count("turn") > done.count("turned") else None


def hidden_moves(program, plan, state, level, records, entries):
    """What one hidden act beside a state makes of an ideal state."""
    releases = turn_releases(plan)
    for client in sorted(entries):
        if entries[client][0] == "open":
            left, answer = whole(program, releases[level], records, *entries[client][1:])
            yield level, left, {**entries, client: ("done", answer)}
    turn = open_turn(plan, state[0])
    other = None
    if turn is not None and state[1] == 0 and level == turn - 1:
        other = turn
    if turn is not None and state[1] == 1 and level == turn:
        other = turn - 1
    if other is not None:
        before, behind = (program.releases[releases[at]][0] for at in (level, other))
        yield other, tuple(
            convert_one(program, service, before[service], behind[service], number)
            for service, number in enumerate(records)), entries


def shown(sign, level, entries):
    """The entries behind a sign, or None if the sign is not one of an ideal state with this level and these entries."""
    if not sign:
        return entries
    if sign[0] == "asked":
        return {**entries, sign[1]: ("open", *sign[2:])}
    if sign[0] == "answered":
        if entries.get(sign[1]) != ("done", sign[2]):
            return None
        return {client: entry for client, entry in entries.items() if client != sign[1]}
    return entries if level == {"turned": sign[1], "returned": sign[1] - 1}[sign[0]] else None


def explained(program, plan, run):
    """Whether some order of hidden acts and signs explains a run: a search for one that gets behind its last act."""
    states, signs = [start(program)], []
    for act in run:
        state, sign = after(program, plan, states[-1], act)
        states.append(state)
        signs.append(sign)
    pending = [(0, 0, (0,) * len(program.services), {})]
    tried = []
    while pending:
        moment = pending.pop()
        if moment in tried:
            continue
        tried.append(moment)
        index, level, records, entries = moment
        if index == len(run):
            return True
        # The latest hidden act may come just before the next act: so hidden acts behind the last act need no look.
        pending += [(index, *moved) for moved in hidden_moves(program, plan, states[index], level, records, entries)]
        left = shown(signs[index], level, entries)
        if left is not None:
            pending.append((index + 1, level, records, left))
    return False


def meetings(program, plan):
    """All new pairs in the order of point 76, each with the run by which it was first met; none behind an empty one."""
    first = first_pair(program, plan)
    known, queue = [first], [(first, [])]
    yield first, []
    while queue:
        pair, run = queue.pop(0)
        for act in acts(program, plan, pair[0]):
            other = next_pair(program, plan, pair, act)
            if other not in known:
                known.append(other)
                yield other, run + [act]
                if other[1]:
                    queue.append((other, run + [act]))


def verdict(program, plan, limit):
    """The verdict, with the pairs that have numbers."""
    numbered = []
    for pair, run in meetings(program, plan):
        if not pair[1]:
            return ("not one", run), numbered
        if len(numbered) == limit:
            return ("many",), numbered
        numbered.append(pair)
    return ("one", len(numbered)), numbered


def states_of(program, plan, limit):
    """All states that are reached, or None if they are more than the limit."""
    found = {start(program)}
    fresh = set(found)
    while fresh:
        fresh = {after(program, plan, state, act)[0] for state in fresh for act in acts(program, plan, state)} - found
        found |= fresh
        if len(found) > limit:
            return None
    return found
