"""The ideal states of pairs, each tuple of them worked out once and known by a number (point 74)."""

from rollwarden.ideal import beside, first_ideal, signed
from rollwarden.states import BACK, PLACE


class Ideals:
    """The tuples of ideal states that stand beside the states of one program and plan, as far as they were met."""

    def __init__(self, program, plan):
        self.program = program
        self.plan = plan
        self.met = []
        self.numbers = {}
        self.following = {}

    def number_for(self, ideals):
        """Returns the number of a tuple of ideal states; a new one gets the next number."""
        if ideals not in self.numbers:
            self.numbers[ideals] = len(self.met)
            self.met.append(ideals)
        return self.numbers[ideals]

    def first(self, state):
        """Returns the number of the ideal states beside the first state."""
        return self.number_for(beside(self.program, self.plan, state, [first_ideal(self.program)]))

    def behind(self, number, sign, state):
        """Returns the number of what an act with this sign, which leads to this state, makes of ideal states."""
        # Of the state, hidden acts ask only for the place and the direction; so many acts do the same.
        key = (number, sign, state[PLACE], state[BACK])
        if key not in self.following:
            left = signed(self.met[number], sign)
            self.following[key] = self.number_for(beside(self.program, self.plan, state, left))
        return self.following[key]
