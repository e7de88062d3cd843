"""Plans (points 40 to 44)."""

from rollwarden.errors import BadPlan
from rollwarden.tuples import is_tuple, is_within

MOST_STEPS = 8


def has_service(program, service):
    """Tells whether this is the index of a service."""
    return is_within(service, 0, len(program.services) - 1)


def has_version(program, service, version):
    """Tells whether this service exists and has this version."""
    return has_service(program, service) and is_within(version, 0, len(program.services[service][1]) - 1)


def has_instance(program, service, instance):
    """Tells whether this service exists and has this instance."""
    return has_service(program, service) and is_within(instance, 0, program.services[service][0] - 1)


def step_fits(program, step):
    """Tells whether a step alone fits the program."""
    if not is_tuple(step, 1, 4):
        return False
    word = step[0]
    if len(step) == 1:
        return word in ("turned", "final")
    if len(step) == 2:
        return word == "turn" and is_within(step[1], 0, len(program.releases) - 1)
    if len(step) == 4:
        return word == "raise" and has_instance(program, step[1], step[2]) and has_version(program, step[1], step[3])
    if word == "flip":
        return is_within(step[1], 0, program.switches - 1) and is_within(step[2], 0, 1)
    return word in ("move", "drained") and has_version(program, step[1], step[2])


def first_misfit(program, steps):
    """Returns the index that point 42 tells for these steps, or None if they are a plan."""
    is_turning = False
    for index, step in enumerate(steps):
        if index >= MOST_STEPS or not step_fits(program, step):
            return index
        # Within a turn only its end may come next, and outside of one only a beginning.
        if (step[0] == "turn" and is_turning) or (step[0] == "turned" and not is_turning):
            return index
        if step[0] in ("turn", "turned"):
            is_turning = not is_turning
    if is_turning:
        return len(steps)
    return None


def turns_of(steps):
    """Returns a tuple (start, end, release) for each turn, in their order."""
    turns = []
    start = 0
    for index, step in enumerate(steps):
        if step[0] == "turn":
            start = index
        elif step[0] == "turned":
            turns.append((start, index, steps[start][1]))
    return tuple(turns)


class Plan:
    """The steps of an upgrade, and what the first ones of them tell."""

    def __init__(self, program, steps, *, undo=False):
        kept = tuple(steps)
        misfit = first_misfit(program, kept)
        if misfit is not None:
            raise BadPlan(misfit)
        self.program = program
        self.steps = kept
        self.undo = undo
        self.turns = turns_of(kept)

    def version_at(self, service, instance, place):
        """Returns the version of an instance at a place."""
        version = self.program.releases[0][0][service]
        for step in self.steps[:place]:
            if step[:3] == ("raise", service, instance):
                version = step[3]
        return version

    def value_at(self, switch, place):
        """Returns the value of a switch at a place."""
        value = self.program.releases[0][1][switch]
        for step in self.steps[:place]:
            if step[:2] == ("flip", switch):
                value = step[2]
        return value

    def form_at(self, service, place):
        """Returns the version in whose form the record of a service lies at a place."""
        version = self.program.releases[0][0][service]
        for step in self.steps[:place]:
            if step[:2] == ("move", service):
                version = step[2]
        return version

    def fixed(self, place):
        """Returns the number of steps that are never undone at a place."""
        count = 0
        for index, step in enumerate(self.steps[:place]):
            if step[0] == "final":
                count = index + 1
        return count

    def is_open(self, turn, place):
        """Tells whether there is a turn with this number and it is open at a place."""
        if not 1 <= turn <= len(self.turns):
            return False
        start, end, _ = self.turns[turn - 1]
        return start < place <= end

    def turn_of(self, index):
        """Returns the number of the turn that begins or ends with the step at this index; 0 if there is none."""
        for turn, (start, end, _) in enumerate(self.turns):
            if index in (start, end):
                return turn + 1
        return 0

    def release_of(self, level):
        """Returns the release of a level."""
        if level == 0:
            return 0
        return self.turns[level - 1][2]
