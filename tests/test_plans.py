"""Points 5 and 40 to 44: plans, what does not fit, and what the first steps tell."""

import copy
import inspect
import unittest

from rollwarden.errors import BadPlan, RollError
from rollwarden.plans import Plan
from rollwarden.program import Program

WORST = (True, False, None)
FINAL = ("final",)
TURNED = ("turned",)


def program():
    """Two services with two instances and three versions, and with one of each; two switches, three releases."""
    rest = tuple(((2,), (0, 1), (0, 1), (None,)) for _ in range(2))
    low = ((2,), (), (), (None,))
    return Program(
        questions=((0, 1, 1),),
        services=((2, (low, *rest)), (1, (low,))),
        releases=(((1, 0), (0, 1)), ((2, 0), (1, 0)), ((0, 0), (0, 0))),
        switches=2,
    )


def turn(release):
    return ("turn", release)


def told(steps):
    """The index that is told, or None if the steps are a plan."""
    try:
        Plan(program(), steps)
    except BadPlan as error:
        return error.value
    return None


class TestPlan(unittest.TestCase):
    def test_the_attributes(self):
        shop = program()
        steps = (turn(1), ("raise", 0, 0, 2), TURNED, FINAL, turn(0), TURNED)
        plan = Plan(shop, steps, undo=True)
        self.assertIs(plan.program, shop)
        self.assertEqual(plan.steps, steps)
        self.assertIs(plan.undo, True)
        self.assertEqual(plan.turns, ((0, 2, 1), (4, 5, 0)))

    def test_what_is_left_out(self):
        plan = Plan(program(), ())
        self.assertIs(plan.undo, False)
        self.assertEqual((plan.steps, plan.turns), ((), ()))

    def test_a_list_of_steps_becomes_a_tuple(self):
        steps = [turn(1), TURNED]
        plan = Plan(program(), steps)
        self.assertEqual(plan.steps, (turn(1), TURNED))
        steps.append(FINAL)
        self.assertEqual(plan.steps, (turn(1), TURNED))

    def test_undo_is_passed_by_name(self):
        self.assertEqual(str(inspect.signature(Plan)), "(program, steps, *, undo=False)")

    def test_the_error(self):
        with self.assertRaises(RollError) as held:
            Plan(program(), [FINAL, ("done",)])
        self.assertIs(type(held.exception), BadPlan)
        self.assertIs(type(held.exception.value), int)
        self.assertEqual(held.exception.value, 1)

    def test_arguments_stay_as_they_were(self):
        shop = program()
        before = copy.deepcopy(vars(shop))
        for steps in ([turn(1), FINAL, TURNED], [("done",), FINAL]):
            kept = list(steps)
            try:
                Plan(shop, steps)
            except BadPlan:
                pass
            self.assertEqual(steps, kept)
        self.assertEqual(vars(shop), before)


class TestSteps(unittest.TestCase):
    def check(self, right, wrong):
        """Each step at each index, behind steps that are right."""
        for steps, expected in ((right, False), (wrong, True)):
            for step in steps:
                for index in (0, 3, 7):
                    with self.subTest(step=step, index=index):
                        self.assertEqual(told([FINAL] * index + [step]), index if expected else None)

    def test_raise(self):
        self.check(
            [("raise", 0, i, v) for i in (0, 1) for v in (0, 1, 2)] + [("raise", 1, 0, 0)],
            [("raise", s, 0, 0) for s in (-1, 2, *WORST)] + [("raise", 0, i, 0) for i in (-1, 2, *WORST)]
            + [("raise", 0, 0, v) for v in (-1, 3, *WORST)] + [("raise", 1, 1, 0), ("raise", 1, 0, 1)]
            + [("raise",), ("raise", 0), ("raise", 0, 0), ("raise", 0, 0, 0, 0)])

    def test_flip(self):
        self.check(
            [("flip", s, v) for s in (0, 1) for v in (0, 1)],
            [("flip", s, 0) for s in (-1, 2, *WORST)] + [("flip", 0, v) for v in (-1, 2, *WORST)]
            + [("flip",), ("flip", 0), ("flip", 0, 0, 0), ("flip", 0, 0, 0, 0)])

    def test_move_and_drained(self):
        for word in ("move", "drained"):
            self.check(
                [(word, 0, v) for v in (0, 1, 2)] + [(word, 1, 0)],
                [(word, s, 0) for s in (-1, 2, *WORST)] + [(word, 0, v) for v in (-1, 3, *WORST)]
                + [(word, 1, 1), (word,), (word, 0), (word, 0, 0, 0), (word, 0, 0, 0, 0)])

    def test_turn(self):
        for release in (0, 1, 2):
            self.assertIsNone(told([turn(release), TURNED]))
        self.check([], [turn(release) for release in (-1, 3, *WORST)])
        for step in (("turn",), ("turn", 0, 0), ("turn", 0, 0, 0)):
            self.assertEqual(told([step, TURNED]), 0)

    def test_turned(self):
        for step in (("turned", 0), ("turned", 0, 0), ("turned", 0, 0, 0)):
            self.assertEqual(told([turn(0), step]), 1)

    def test_final(self):
        self.check([FINAL], [("final", 0), ("final", 0, 0), ("final", 0, 0, 0)])

    def test_unknown_words(self):
        self.check([], [(), ("",), ("done",), ("Final",), ("step", 0), ("lower", 0, 0), ("lower", 0, 0, 0)])

    def test_without_switches_no_flip_fits(self):
        plain = Program(questions=((0, 1, 1),), services=((1, (((1,), (), (), (None,)),)),), releases=(((0,), ()),))
        with self.assertRaises(BadPlan) as held:
            Plan(plain, [("flip", 0, 0)])
        self.assertEqual(held.exception.value, 0)

    def test_at_most_eight_steps(self):
        self.assertIsNone(told([FINAL] * 8))
        self.assertEqual(told([FINAL] * 9), 8)
        self.assertEqual(told([FINAL] * 12), 8)
        self.assertEqual(told([FINAL] * 8 + [("done",)]), 8)
        self.assertEqual(told([FINAL] * 7 + [("done",), FINAL]), 7)

    def test_the_first_one_of_several_is_told(self):
        self.assertEqual(told([FINAL, ("done",), ("raise", 9, 0, 0)]), 1)
        self.assertEqual(told([TURNED, ("done",)]), 0)
        self.assertEqual(told([turn(0), turn(0), ("done",)]), 1)
        self.assertEqual(told([turn(0), ("done",), turn(0)]), 1)


class TestTurns(unittest.TestCase):
    def test_turns_one_after_the_other(self):
        self.assertIsNone(told([turn(1), TURNED, turn(2), FINAL, TURNED, FINAL]))

    def test_a_turn_within_a_turn(self):
        self.assertEqual(told([turn(1), turn(2), TURNED, TURNED]), 1)
        self.assertEqual(told([turn(1), FINAL, turn(1), TURNED]), 2)

    def test_a_turned_step_without_a_turn(self):
        self.assertEqual(told([TURNED]), 0)
        self.assertEqual(told([FINAL, TURNED]), 1)
        self.assertEqual(told([turn(1), TURNED, TURNED]), 2)
        self.assertEqual(told([turn(1), TURNED, FINAL, TURNED]), 3)

    def test_a_turn_without_its_end(self):
        self.assertEqual(told([turn(1)]), 1)
        self.assertEqual(told([turn(1), FINAL, FINAL]), 3)
        self.assertEqual(told([turn(1), TURNED, turn(2)]), 3)
        self.assertEqual(told([FINAL] * 7 + [turn(1)]), 8)

    def test_a_turn_that_would_end_too_late(self):
        self.assertEqual(told([FINAL] * 7 + [turn(1), TURNED]), 8)

    def test_their_places_and_releases(self):
        plan = Plan(program(), [FINAL, turn(2), FINAL, FINAL, TURNED, turn(0), TURNED])
        self.assertEqual(plan.turns, ((1, 4, 2), (5, 6, 0)))
        plan = Plan(program(), [turn(1), TURNED] * 4)
        self.assertEqual(plan.turns, ((0, 1, 1), (2, 3, 1), (4, 5, 1), (6, 7, 1)))


class TestTold(unittest.TestCase):
    def each(self, plan, method, *args):
        return [method(*args, place) for place in range(len(plan.steps) + 1)]

    def test_version_at(self):
        plan = Plan(program(), [
            ("raise", 0, 0, 2), ("raise", 0, 1, 0), ("move", 0, 0), ("raise", 0, 0, 1), FINAL, ("raise", 0, 0, 0)])
        self.assertEqual(self.each(plan, plan.version_at, 0, 0), [1, 2, 2, 2, 1, 1, 0])
        self.assertEqual(self.each(plan, plan.version_at, 0, 1), [1, 1, 0, 0, 0, 0, 0])
        self.assertEqual(self.each(plan, plan.version_at, 1, 0), [0] * 7)

    def test_value_at(self):
        plan = Plan(program(), [("flip", 0, 1), ("flip", 1, 0), ("flip", 0, 1), ("flip", 0, 0), turn(1), TURNED])
        self.assertEqual(self.each(plan, plan.value_at, 0), [0, 1, 1, 1, 0, 0, 0])
        self.assertEqual(self.each(plan, plan.value_at, 1), [1, 1, 0, 0, 0, 0, 0])

    def test_form_at(self):
        plan = Plan(program(), [("raise", 0, 0, 2), ("move", 0, 2), ("move", 1, 0), ("drained", 0, 0), ("move", 0, 0)])
        self.assertEqual(self.each(plan, plan.form_at, 0), [1, 1, 2, 2, 2, 0])
        self.assertEqual(self.each(plan, plan.form_at, 1), [0] * 6)

    def test_a_turn_changes_no_version_and_no_value(self):
        plan = Plan(program(), [turn(1), TURNED])
        self.assertEqual(self.each(plan, plan.version_at, 0, 0), [1, 1, 1])
        self.assertEqual(self.each(plan, plan.value_at, 0), [0, 0, 0])
        self.assertEqual(self.each(plan, plan.form_at, 0), [1, 1, 1])

    def test_fixed(self):
        plan = Plan(program(), [("flip", 0, 1), FINAL, ("flip", 0, 0), FINAL, FINAL, turn(1), TURNED])
        self.assertEqual(self.each(plan, plan.fixed), [0, 0, 2, 2, 4, 5, 5, 5])
        plan = Plan(program(), [turn(1), TURNED])
        self.assertEqual(self.each(plan, plan.fixed), [0, 0, 0])

    def test_is_open(self):
        plan = Plan(program(), [FINAL, turn(1), FINAL, TURNED, turn(2), TURNED])
        self.assertEqual(self.each(plan, plan.is_open, 1), [False, False, True, True, False, False, False])
        self.assertEqual(self.each(plan, plan.is_open, 2), [False] * 5 + [True, False])
        for number in (-2, -1, 0, 3, 100):
            self.assertEqual(self.each(plan, plan.is_open, number), [False] * 7)
        self.assertIs(plan.is_open(1, 2), True)
        self.assertIs(plan.is_open(1, 1), False)

    def test_turn_of(self):
        plan = Plan(program(), [FINAL, turn(1), FINAL, TURNED, turn(2), TURNED, ("flip", 0, 0)])
        self.assertEqual([plan.turn_of(index) for index in range(7)], [0, 1, 0, 1, 2, 2, 0])

    def test_release_of(self):
        plan = Plan(program(), [turn(2), TURNED, turn(0), TURNED, turn(1), TURNED])
        self.assertEqual([plan.release_of(level) for level in range(4)], [0, 2, 0, 1])
        self.assertEqual(Plan(program(), ()).release_of(0), 0)

    def test_it_does_not_depend_on_undo(self):
        steps = [("raise", 0, 0, 2), ("flip", 0, 1), FINAL]
        for undo in (False, True):
            plan = Plan(program(), steps, undo=undo)
            self.assertEqual((plan.version_at(0, 0, 3), plan.value_at(0, 3), plan.fixed(3)), (2, 1, 3))


if __name__ == "__main__":
    unittest.main()
