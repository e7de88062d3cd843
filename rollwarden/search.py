"""The order in which the judge meets pairs (point 76)."""

from rollwarden.effects import behind
from rollwarden.machine import acts, start
from rollwarden.pairs import Ideals


class Search:
    """The pairs that were met, in the order of their numbers, and the verdict as soon as it is known."""

    def __init__(self, program, plan, limit):
        self.program = program
        self.plan = plan
        self.limit = limit
        self.ideals = Ideals(program, plan)
        # A pair is kept as a state and the number of its ideal states.
        self.pairs = []
        self.numbers = {}
        # How each pair was first met: the number of the pair before it, and the act; None for the first pair.
        self.ways = []
        self.targets = []
        self.verdict = None
        state = start(program)
        self.meet((state, self.ideals.first(state)), None)

    def meet(self, pair, way):
        """Gives a new pair, which is met in this way, the next number, or finds the verdict."""
        if len(self.ideals.met[pair[1]]) == 0:
            self.verdict = ("not one", self.run_along(way))
        elif len(self.pairs) >= self.limit:
            self.verdict = ("many",)
        else:
            self.numbers[pair] = len(self.pairs)
            self.pairs.append(pair)
            self.ways.append(way)

    def run_along(self, way):
        """Returns the run that ends in this way, by the acts by which the pairs before it were first met."""
        run = []
        part = way
        while part is not None:
            before, act = part
            run.append(act)
            part = self.ways[before]
        return list(reversed(run))

    def take(self, number):
        """Takes the pair with this number: meets the pairs behind its acts until a verdict is known."""
        state, ideals = self.pairs[number]
        targets = []
        for act in acts(self.program, self.plan, state):
            next_state, sign = behind(self.program, self.plan, state, act)
            pair = (next_state, self.ideals.behind(ideals, sign, next_state))
            if pair not in self.numbers:
                self.meet(pair, (number, act))
            if self.verdict is not None:
                return
            targets.append(self.numbers[pair])
        self.targets.append(tuple(targets))


def searched(program, plan, limit):
    """Returns a search whose verdict is known."""
    search = Search(program, plan, limit)
    number = 0
    while search.verdict is None:
        search.take(number)
        number += 1
        if search.verdict is None and number == len(search.pairs):
            search.verdict = ("one", number)
    return search
