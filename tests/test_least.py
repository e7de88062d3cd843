"""Points 80 and 81: the least row of offers."""

import itertools
import random
import unittest

from chance import program_by_chance, step
from rollwarden.errors import BadPlan
from rollwarden.judge import judge
from rollwarden.least import least
from rollwarden.plans import Plan
from samples import counter, same, switching

TURN = ("turn", 1)
TURNED = ("turned",)
FLIP = ("flip", 0, 1)
FINAL = ("final",)
WANTS = [("switch", 0, 1), ("release", 1)]
ENOUGH = 10000


def is_given(program, steps, want):
    """Whether steps give a want, read off the steps."""
    if want[0] == "instance":
        told = [made[3] for made in steps if made[:3] == ("raise", *want[1:3])]
        return ([program.releases[0][0][want[1]]] + told)[-1] == want[3]
    if want[0] == "switch":
        told = [made[2] for made in steps if made[:2] == ("flip", want[1])]
        return ([program.releases[0][1][want[1]]] + told)[-1] == want[2]
    return ([0] + [made[1] for made in steps if made[0] == "turn"])[-1] == want[1]


def plainly(program, offers, wants, limit):
    """The answer as point 81 tells it: one row after the other."""
    many = []
    for length in range(len(offers) + 1):
        for row in itertools.permutations(range(len(offers)), length):
            steps = [made for index in row for made in offers[index]]
            try:
                plan = Plan(program, steps)
            except BadPlan:
                continue
            if all(is_given(program, steps, want) for want in wants):
                told = judge(program, plan, limit)[0]
                if told == "one":
                    return row, many
                if told == "many":
                    many.append(row)
    return None, many


class TestRows(unittest.TestCase):
    def test_the_empty_row(self):
        program = switching()
        for offers in ([], [[FINAL]], [[TURN, FLIP, TURNED], []]):
            self.assertEqual(least(program, offers, [], ENOUGH), ((), []))
            self.assertEqual(least(program, offers, [("release", 0), ("switch", 0, 0)], ENOUGH), ((), []))
            self.assertEqual(least(program, offers, [("instance", 0, 0, 0)], ENOUGH), ((), []))

    def test_no_row(self):
        program = switching()
        self.assertEqual(least(program, [], [("switch", 0, 1)], ENOUGH), (None, []))
        self.assertEqual(least(program, [[]], [("switch", 0, 1)], ENOUGH), (None, []))
        self.assertEqual(least(program, [[FLIP]], [("switch", 0, 1)], ENOUGH), (None, []))
        self.assertEqual(least(program, [[TURN, TURNED]], [("release", 1)], ENOUGH), (None, []))

    def test_shorter_rows_come_first(self):
        program = switching()
        offers = [[FLIP], [TURNED], [TURN], [TURN, FLIP, TURNED]]
        self.assertEqual(least(program, offers, WANTS, ENOUGH), ((3,), []))
        self.assertEqual(least(program, offers[:3], WANTS, ENOUGH), ((2, 0, 1), []))

    def test_rows_of_one_length_in_ascending_order(self):
        program = switching()
        good = [TURN, FLIP, TURNED]
        self.assertEqual(least(program, [[FLIP], good, good], WANTS, ENOUGH), ((1,), []))
        self.assertEqual(least(program, [[FLIP, TURNED], [TURN], [TURN]], WANTS, ENOUGH), ((1, 0), []))
        self.assertEqual(least(program, [[TURN], [FLIP, TURNED], [TURN]], WANTS, ENOUGH), ((0, 1), []))
        program = same()
        offers = [[TURN, TURNED], [("raise", 0, 0, 1)], [("raise", 0, 1, 1)]]
        wants = [("instance", 0, 1, 1), ("instance", 0, 0, 1), ("release", 1)]
        self.assertEqual(least(program, offers, wants, ENOUGH), ((0, 1, 2), []))

    def test_no_offer_stands_in_a_row_twice(self):
        program = switching(asks=0)
        wants = [("switch", 0, 0), ("instance", 0, 0, 0), ("release", 1)]
        # Turning twice to release 1 would need the same offer twice.
        self.assertEqual(least(program, [[("turn", 1), TURNED, ("turn", 0)]], wants, ENOUGH), (None, []))
        self.assertEqual(least(program, [[TURN], [TURN], [TURNED]], wants, ENOUGH), ((0, 2), []))

    def test_rows_whose_steps_are_not_a_plan(self):
        program = switching(asks=0)
        bad = [
            [("flip", 1, 1)], [("raise", 0, 1, 0)], [("raise", 0, 0, 1)], [("move", 0)], [("turn", 2), TURNED], [TURNED],
            [("leap",)], [("flip", 0, True)]]
        for steps in bad:
            self.assertEqual(least(program, [[FLIP] + steps, [FLIP]], [("switch", 0, 1)], ENOUGH), ((1,), []))
            self.assertEqual(least(program, [steps + [FLIP]], [("switch", 0, 1)], ENOUGH), (None, []))
            # Not the offer is left out, but each row with it.
            self.assertEqual(least(program, [steps, [FLIP]], [("switch", 0, 1)], ENOUGH), ((1,), []))

    def test_steps_that_are_a_plan_only_with_what_comes_behind_them(self):
        program = switching(asks=0)
        # Neither half of a turn is a plan.
        self.assertEqual(least(program, [[TURNED], [TURN]], [("release", 1)], ENOUGH), ((1, 0), []))
        self.assertEqual(least(program, [[TURNED, TURN], [TURN], [TURNED]], [("release", 1)], ENOUGH), ((1, 2), []))
        wants = [("release", 1), ("switch", 0, 1)]
        self.assertEqual(
            least(program, [[TURNED, ("turn", 0)], [FLIP, TURNED], [TURN]], wants, ENOUGH), ((2, 1), []))
        wants = [("release", 0), ("switch", 0, 1)]
        self.assertEqual(
            least(program, [[TURNED, ("turn", 0)], [FLIP, TURNED], [TURN]], wants, ENOUGH), ((2, 0, 1), []))

    def test_rows_with_too_many_steps(self):
        program = switching(asks=0)
        offers = [[FINAL] * 5, [FINAL] * 4, [FINAL] * 3 + [FLIP]]
        self.assertEqual(least(program, offers, [("switch", 0, 1)], ENOUGH), ((2,), []))
        offers = [[TURN] + [FINAL] * 6, [FINAL, TURNED], [TURNED]]
        self.assertEqual(least(program, offers, [("release", 1)], ENOUGH), ((0, 2), []))
        self.assertEqual(least(program, offers[:2], [("release", 1)], ENOUGH), (None, []))

    def test_many_offers(self):
        program = switching(asks=0)
        offers = [[FINAL] * 4] * 12 + [[TURN, FLIP, TURNED] + [FINAL] * 5]
        self.assertEqual(least(program, offers, WANTS, ENOUGH), ((12,), []))
        # With three offers there are nine steps, so longer rows need no look.
        self.assertEqual(least(program, [[FINAL] * 3] * 12, [("switch", 0, 1)], ENOUGH), (None, []))

    def test_offers_without_steps(self):
        program = switching(asks=0)
        self.assertEqual(least(program, [[], [FLIP], []], [("switch", 0, 1)], ENOUGH), ((1,), []))
        self.assertEqual(least(program, [[], []], [("switch", 0, 1)], ENOUGH), (None, []))
        self.assertEqual(least(program, [[], []], [], 1), ((), []))
        program = switching()
        self.assertEqual(least(program, [[], []], [], 1), (None, [(), (0,), (1,), (0, 1), (1, 0)]))

    def test_the_plan_cannot_be_undone(self):
        program = switching()
        good = [TURN, FLIP, TURNED]
        self.assertEqual(judge(program, Plan(program, good), 14), ("one", 14))
        self.assertEqual(judge(program, Plan(program, good, undo=True), 14), ("many",))
        self.assertEqual(least(program, [good], WANTS, 14), ((0,), []))


class TestWants(unittest.TestCase):
    RAISED = ("raise", 0, 1, 1)

    def given(self, steps, *wants):
        """Whether a plan gives the wants. Nobody asks, so each plan is one; the empty row never gives all wants."""
        row, told = least(counter(asks=0), [[self.RAISED, *steps]], [*wants, ("instance", 0, 1, 1)], ENOUGH)
        self.assertEqual(told, [])
        self.assertIn(row, (None, (0,)))
        return row == (0,)

    def test_an_instance(self):
        self.assertTrue(self.given([], ("instance", 0, 0, 0)))
        self.assertFalse(self.given([], ("instance", 0, 0, 1)))
        self.assertFalse(self.given([], ("instance", 0, 1, 0)))
        # The last raise of the instance tells.
        steps = [("raise", 0, 0, 1), ("raise", 0, 0, 0), ("raise", 0, 1, 0), ("raise", 0, 1, 1)]
        self.assertTrue(self.given(steps, ("instance", 0, 0, 0)))
        self.assertFalse(self.given(steps[:1], ("instance", 0, 0, 0)))
        self.assertTrue(self.given(steps[:1], ("instance", 0, 0, 1)))
        self.assertFalse(self.given(steps[:3]))
        # A move and a turn raise no instance.
        self.assertFalse(self.given([("move", 0, 1), ("turn", 1), TURNED], ("instance", 0, 0, 1)))

    def test_a_switch(self):
        for steps, value in (([], 0), ([FLIP], 1), ([FLIP, ("flip", 0, 0)], 0), ([("flip", 0, 0), FLIP], 1),
                             ([TURN, TURNED], 0)):
            self.assertTrue(self.given(steps, ("switch", 0, value)))
            self.assertFalse(self.given(steps, ("switch", 0, 1 - value)))

    def test_a_release(self):
        turns = [("turn", 1), TURNED, ("turn", 0), TURNED]
        for count, release in ((0, 0), (2, 1), (4, 0)):
            self.assertTrue(self.given(turns[:count], ("release", release)))
            self.assertFalse(self.given(turns[:count], ("release", 1 - release)))
            self.assertFalse(self.given(turns[:count], ("release", 2)))
        # A flip and a raise turn to no release.
        self.assertFalse(self.given([FLIP, ("raise", 0, 0, 1)], ("release", 1)))

    def test_all_wants_must_be_given(self):
        steps = [("turn", 1), TURNED]
        self.assertTrue(self.given(steps, ("release", 1), ("instance", 0, 0, 0)))
        self.assertFalse(self.given(steps, ("release", 1), ("instance", 0, 0, 1)))
        self.assertFalse(self.given(steps, ("instance", 0, 0, 1), ("release", 1)))
        self.assertFalse(self.given(steps, ("release", 1), ("switch", 0, 1), ("instance", 0, 0, 0)))
        self.assertFalse(self.given(steps, ("release", 0), ("release", 1)))


class TestOpenRows(unittest.TestCase):
    LONG = [TURN, FLIP, FINAL, FINAL, TURNED]
    SHORT = [TURN, FLIP, TURNED]

    def test_rows_before_the_answer_that_are_many(self):
        program = switching()
        self.assertEqual(least(program, [self.LONG, self.SHORT], WANTS, 14), ((1,), [(0,)]))
        self.assertEqual(
            least(program, [self.LONG, self.LONG, self.SHORT, self.LONG], WANTS, 14), ((2,), [(0,), (1,)]))
        self.assertEqual(least(program, [self.LONG, self.SHORT], WANTS, ENOUGH), ((0,), []))

    def test_rows_that_are_not_one_are_not_told(self):
        program = switching()
        self.assertEqual(least(program, [[FLIP, TURN, TURNED], self.LONG, self.SHORT], WANTS, 14), ((2,), [(1,)]))

    def test_rows_that_do_not_give_all_wants_are_not_told(self):
        program = switching()
        self.assertEqual(least(program, [[FINAL] * 5, self.LONG, self.SHORT], WANTS, 14), ((2,), [(1,)]))

    def test_all_rows_that_are_many_if_there_is_no_answer(self):
        program = switching()
        self.assertEqual(least(program, [[FLIP], [TURNED], [TURN]], WANTS, 1), (
            None, [(0, 2, 1), (2, 0, 1), (2, 1, 0)]))
        # The first one is found to be not one with 7 pairs, and the last one with 12.
        self.assertEqual(least(program, [[FLIP], [TURNED], [TURN]], WANTS, 7), (None, [(2, 0, 1), (2, 1, 0)]))
        self.assertEqual(least(program, [[FLIP], [TURNED], [TURN]], WANTS, 13), (None, [(2, 0, 1)]))
        self.assertEqual(least(program, [[FLIP], [TURNED], [TURN]], WANTS, 14), ((2, 0, 1), []))

    def test_the_list_is_a_new_one(self):
        program = switching()
        _, told = least(program, [self.LONG, self.SHORT], WANTS, 14)
        told.clear()
        self.assertEqual(least(program, [self.LONG, self.SHORT], WANTS, 14), ((1,), [(0,)]))


class TestByChance(unittest.TestCase):
    def some_want(self, rng, program):
        service = rng.randrange(len(program.services))
        instances, known = program.services[service]
        wants = [("instance", service, rng.randrange(instances), rng.randrange(len(known)))]
        wants.append(("release", rng.randrange(len(program.releases))))
        if program.switches:
            wants.append(("switch", rng.randrange(program.switches), rng.randrange(2)))
        return rng.choice(wants)

    def test_as_one_row_after_the_other(self):
        rows, many = 0, 0
        for seed in range(0, 1500, 2):
            rng = random.Random(seed)
            program = program_by_chance(seed)
            turn = ("turn", rng.randrange(len(program.releases)))
            offers = [[turn, TURNED], [turn], [TURNED], []]
            offers += [[step(rng, program) for _ in range(rng.randint(1, 2))] for _ in range(2)]
            offers = rng.sample(offers, 4)
            wants = [self.some_want(rng, program) for _ in range(rng.choice([1, 1, 2]))]
            limit = rng.choice([1, 30, 200])
            found = least(program, offers, wants, limit)
            self.assertEqual(found, plainly(program, offers, wants, limit), seed)
            rows += bool(found[0])
            many += found[1] != []
        self.assertGreater(rows, 5)
        self.assertGreater(many, 20)


if __name__ == "__main__":
    unittest.main()
