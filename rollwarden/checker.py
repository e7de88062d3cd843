"""Checking the rows of a certificate (point 78)."""

from rollwarden.effects import behind
from rollwarden.machine import acts, start
from rollwarden.pairs import Ideals
from rollwarden.tuples import is_within


class Checker:
    """Rows that are checked in their order, and what the rows checked so far tell of the others."""

    def __init__(self, program, plan, rows):
        self.program = program
        self.plan = plan
        self.rows = rows
        self.ideals = Ideals(program, plan)
        # The indexes of the rows that were named, each with the number of the row's ideal states.
        self.named = {}

    def name(self, index, state, ideals):
        """Names the row at this index; tells whether it is the pair of the state and these ideal states (a number)."""
        if not is_within(index, 0, len(self.rows) - 1):
            return False
        if self.rows[index][:2] != (state, self.ideals.met[ideals]):
            return False
        self.named[index] = ideals
        return True

    def begins_rightly(self):
        """Tells whether there is a first row, and it has the first pair."""
        state = start(self.program)
        return self.name(0, state, self.ideals.first(state))

    def accepts(self, index):
        """Tells whether the row at this index was named, has an ideal state and has the right targets."""
        # Only the state of a row that was named is known to be one that is reached; nothing is asked of any other.
        if index not in self.named:
            return False
        state, ideals, targets = self.rows[index]
        allowed = acts(self.program, self.plan, state)
        if len(ideals) == 0 or len(targets) != len(allowed):
            return False
        for act, target in zip(allowed, targets):
            next_state, sign = behind(self.program, self.plan, state, act)
            if not self.name(target, next_state, self.ideals.behind(self.named[index], sign, next_state)):
                return False
        return True
