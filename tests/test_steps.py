"""Points 40, 55, 57 and 58: doing a plan and undoing it."""

import unittest

from rollwarden.machine import acts, after, start
from rollwarden.plans import Plan
from samples import behind, chain, counter, play, stairs

STEP = ("step",)
BACK = ("turnback",)
UNSTEP = ("unstep",)
FINAL = ("final",)
TURNED = ("turned",)


def plan_acts(program, steps, run, undo=False):
    """The allowed acts that do and undo the plan, behind this run."""
    plan = Plan(program, steps, undo=undo)
    found = acts(program, plan, play(program, plan, run)[0])
    return [act for act in found if act in (STEP, BACK, UNSTEP)]


class TestStep(unittest.TestCase):
    def test_only_while_there_is_a_next_one(self):
        program = stairs()
        self.assertEqual(plan_acts(program, [], []), [])
        self.assertEqual(plan_acts(program, [FINAL, FINAL], [STEP]), [STEP])
        self.assertEqual(plan_acts(program, [FINAL, FINAL], [STEP, STEP]), [])

    def test_a_raise_sets_the_version(self):
        program = counter()
        before = start(program)
        state, signs = play(program, Plan(program, [("raise", 0, 1, 1)]), [STEP])
        self.assertEqual(state, (1, *before[1:4], (((0, None, ()), (1, None, ())),), *before[5:]))
        self.assertEqual(signs, [()])

    def test_a_raise_may_lower_a_version(self):
        program = stairs()
        steps = [("raise", 0, 0, 2), ("raise", 0, 0, 1), ("raise", 0, 0, 1)]
        self.assertEqual([behind(program, [STEP] * n, steps)[4][0][0][0] for n in range(4)], [0, 2, 1, 1])

    def test_a_raise_keeps_the_messages(self):
        program = counter()
        state = behind(program, [("ask", 0, 0, 1, 1), STEP], [("raise", 0, 1, 1)])
        self.assertEqual(state[4], (((0, None, ()), (1, None, ((0, 1, 0, 0, 0),))),))

    def test_a_raise_waits_for_the_work_of_its_instance(self):
        program = chain((2, 1, 1), asks=1)
        ask = ("ask", 0, 0, 1, 0)
        for instance, expected in ((0, []), (1, [STEP])):
            steps = [("raise", 0, instance, 0)]
            self.assertEqual(plan_acts(program, steps, [ask]), [STEP])
            self.assertEqual(plan_acts(program, steps, [ask, ("take", 0, 0, 0)]), expected)
        # A work that does not wait counts as well.
        run = [ask, ("take", 0, 0, 0), ("take", 1, 0, 0), ("take", 2, 0, -1), ("go", 1, 0, -1)]
        self.assertEqual(plan_acts(program, [("raise", 0, 0, 0)], run), [])
        self.assertEqual(plan_acts(program, [("raise", 0, 0, 0)], run + [("go", 0, 0, -1)]), [STEP])

    def test_a_flip_sets_the_value(self):
        program = stairs()
        steps = [("flip", 1, 0), ("flip", 0, 1), ("flip", 0, 1), ("flip", 1, 1)]
        states = [behind(program, [STEP] * n, steps) for n in range(5)]
        self.assertEqual([state[2] for state in states], [(0, 1), (0, 0), (1, 0), (1, 0), (1, 1)])
        self.assertEqual(states[1], (1, 0, (0, 0), *start(program)[3:]))

    def test_a_move_converts_the_record(self):
        program = stairs()
        steps = [("move", 0, 2), ("move", 0, 2), ("move", 0, 1), ("move", 0, 0)]
        states = [behind(program, [STEP] * n, steps) for n in range(5)]
        # 0 goes up to 1 and 2, then down to 1 and 2.
        self.assertEqual([state[3] for state in states], [((0, 0),), ((2, 2),), ((2, 2),), ((1, 1),), ((0, 2),)])
        self.assertEqual(states[1], (1, *start(program)[1:3], ((2, 2),), *start(program)[4:]))

    def test_a_move_converts_from_the_form_in_which_the_record_lies(self):
        program = stairs()
        steps = [("raise", 0, 0, 1), ("move", 0, 2)]
        run = [STEP, ("ask", 0, 0, 0, 0), ("take", 0, 0, -1)]
        self.assertEqual(behind(program, run, steps)[3], ((1, 1),))
        self.assertEqual(behind(program, run + [STEP], steps)[3], ((2, 2),))

    def test_turns_and_final_steps_change_only_the_place(self):
        program = stairs()
        steps = [("turn", 1), FINAL, TURNED, ("turn", 0), TURNED, ("drained", 0, 0)]
        for n in range(7):
            state, signs = play(program, Plan(program, steps), [STEP] * n)
            self.assertEqual(state, (n, *start(program)[1:]))
        self.assertEqual(signs, [(), (), ("turned", 1), (), ("turned", 2), ()])


class TestDrained(unittest.TestCase):
    def test_only_while_no_instance_with_the_version_has_a_message(self):
        program = counter(asks=2)
        run = [("ask", 0, 0, 1, 1)]
        for version, expected in ((0, []), (1, [STEP])):
            steps = [("drained", 0, version)]
            self.assertEqual(plan_acts(program, steps, []), [STEP])
            self.assertEqual(plan_acts(program, steps, run), expected)
            self.assertEqual(plan_acts(program, steps, run + [("take", 0, 1, -1)]), [STEP])

    def test_the_version_is_the_one_that_the_instance_has_then(self):
        program = counter(asks=2)
        for version, expected in ((0, [STEP]), (1, [])):
            steps = [("raise", 0, 1, 1), ("drained", 0, version)]
            self.assertEqual(plan_acts(program, steps, [STEP, ("ask", 0, 0, 1, 1)]), expected)
            self.assertEqual(plan_acts(program, steps, [STEP, ("ask", 0, 0, 1, 0)]), [STEP] if version == 1 else [])

    def test_only_while_no_instance_with_the_version_has_work(self):
        program = chain((1, 2, 1))
        run = [("ask", 0, 0, 1, 0), ("take", 0, 0, 1), ("take", 1, 1, 0)]
        for service, expected in ((0, []), (1, []), (2, [])):
            self.assertEqual(plan_acts(program, [("drained", service, 0)], run), expected)
        run += [("take", 2, 0, -1)]
        for service, expected in ((0, []), (1, []), (2, [STEP])):
            self.assertEqual(plan_acts(program, [("drained", service, 0)], run), expected)


class TestTurnBack(unittest.TestCase):
    def test_only_a_plan_that_can_be_undone(self):
        program = stairs()
        steps = [("flip", 0, 1), ("flip", 1, 0)]
        self.assertEqual(plan_acts(program, steps, [STEP], True), [STEP, BACK])
        self.assertEqual(plan_acts(program, steps, [STEP], False), [STEP])

    def test_only_with_a_step_behind_the_last_final_one_that_is_done(self):
        program = stairs()
        steps = [("flip", 0, 1), FINAL, ("flip", 1, 0), ("flip", 1, 1), FINAL, FINAL, ("flip", 0, 0)]
        allowed = [BACK in plan_acts(program, steps, [STEP] * n, True) for n in range(8)]
        self.assertEqual(allowed, [False, True, False, True, True, False, False, True])

    def test_it_changes_only_back(self):
        program = stairs()
        plan = Plan(program, [("flip", 0, 1), ("flip", 1, 0)], undo=True)
        before = behind(program, [STEP], plan.steps, True)
        self.assertEqual(after(program, plan, before, BACK), ((before[0], 1, *before[2:]), ()))

    def test_back_never_becomes_0_again(self):
        program = stairs()
        steps = [("flip", 0, 1), ("flip", 1, 0)]
        self.assertEqual(plan_acts(program, steps, [STEP, BACK], True), [UNSTEP])
        self.assertEqual(plan_acts(program, steps, [STEP, STEP, BACK, UNSTEP], True), [UNSTEP])
        self.assertEqual(plan_acts(program, steps, [STEP, STEP, BACK, UNSTEP, UNSTEP], True), [])
        self.assertEqual(behind(program, [STEP, BACK, UNSTEP], steps, True), (0, 1, *start(program)[2:]))


class TestUnstep(unittest.TestCase):
    def undone(self, program, steps):
        """The states behind all steps, and behind each undone one."""
        run = [STEP] * len(steps) + [BACK]
        return [behind(program, run + [UNSTEP] * n, steps, True) for n in range(len(steps) + 1)]

    def test_final_steps_stay(self):
        program = stairs()
        steps = [("flip", 0, 1), FINAL, ("flip", 1, 0)]
        run = [STEP] * 3 + [BACK]
        self.assertEqual(plan_acts(program, steps, run, True), [UNSTEP])
        self.assertEqual(plan_acts(program, steps, run + [UNSTEP], True), [])
        self.assertEqual(behind(program, run + [UNSTEP], steps, True)[:3], (2, 1, (1, 1)))

    def test_a_raise(self):
        program = stairs()
        steps = [("raise", 0, 0, 2), ("raise", 0, 0, 1), FINAL, ("raise", 0, 0, 0), ("raise", 0, 0, 0)]
        run = [STEP] * 5 + [BACK]
        versions = [behind(program, run + [UNSTEP] * n, steps, True)[4][0][0][0] for n in range(3)]
        self.assertEqual(versions, [0, 0, 1])
        versions = [state[4][0][0][0] for state in self.undone(program, steps[:2])]
        self.assertEqual(versions, [1, 2, 0])

    def test_a_raise_keeps_the_messages(self):
        program = counter()
        run = [STEP, ("ask", 0, 0, 1, 1), BACK, UNSTEP]
        state = behind(program, run, [("raise", 0, 1, 1)], True)
        self.assertEqual(state[4], (((0, None, ()), (0, None, ((0, 1, 0, 0, 0),))),))

    def test_a_raise_waits_for_the_work_of_its_instance(self):
        program = chain((2, 1, 1))
        run = [STEP, BACK, ("ask", 0, 0, 1, 0), ("take", 0, 0, 0)]
        for instance, expected in ((0, []), (1, [UNSTEP])):
            self.assertEqual(plan_acts(program, [("raise", 0, instance, 0)], run[:3], True), [UNSTEP])
            self.assertEqual(plan_acts(program, [("raise", 0, instance, 0)], run, True), expected)

    def test_a_drained_step_waits_for_nothing(self):
        program = counter()
        run = [STEP, BACK, ("ask", 0, 0, 1, 0)]
        self.assertEqual(plan_acts(program, [("drained", 0, 0)], run, True), [UNSTEP])
        self.assertEqual(behind(program, run + [UNSTEP], [("drained", 0, 0)], True)[0], 0)

    def test_a_flip(self):
        steps = [("flip", 0, 1), ("flip", 1, 0), ("flip", 0, 0), ("flip", 1, 0)]
        values = [state[2] for state in self.undone(stairs(), steps)]
        self.assertEqual(values, [(0, 0), (0, 0), (1, 0), (1, 1), (0, 1)])

    def test_a_move(self):
        steps = [("move", 0, 1), ("move", 0, 2)]
        # 0 goes up to 1 and to 2; 2 goes down to 1 and to 2.
        records = [state[3] for state in self.undone(stairs(), steps)]
        self.assertEqual(records, [((2, 2),), ((1, 1),), ((0, 2),)])

    def test_a_move_converts_from_the_form_in_which_the_record_lies(self):
        program = stairs()
        # The instance brings the record back into the form of version 0 before the move is undone.
        run = [STEP, ("ask", 0, 0, 0, 0), ("take", 0, 0, -1), BACK, UNSTEP]
        self.assertEqual(behind(program, run[:-1], [("move", 0, 2)], True)[3], ((0, 2),))
        self.assertEqual(behind(program, run, [("move", 0, 2)], True)[3], ((0, 2),))
        # With an earlier move, undoing the later one converts up from there: 2 becomes 3.
        run = [STEP, STEP, ("ask", 0, 0, 0, 0), ("take", 0, 0, -1), BACK, UNSTEP]
        self.assertEqual(behind(program, run, [("move", 0, 1), ("move", 0, 2)], True)[3], ((1, 3),))

    def test_signs(self):
        program = stairs()
        steps = [("turn", 1), ("flip", 0, 1), TURNED, ("turn", 0), TURNED]
        signs = play(program, Plan(program, steps, undo=True), [STEP] * 5 + [BACK] + [UNSTEP] * 5)[1]
        self.assertEqual(signs, [
            (), (), ("turned", 1), (), ("turned", 2), (), (), ("returned", 2), (), (), ("returned", 1)])

    def test_work_goes_on_beside_it(self):
        program = counter(asks=2)
        steps = [("raise", 0, 0, 1), ("flip", 0, 1)]
        run = [STEP, STEP, BACK, ("ask", 0, 0, 0, 0), UNSTEP, ("take", 0, 0, -1), UNSTEP]
        state, signs = play(program, Plan(program, steps, undo=True), run)
        self.assertEqual(signs[-2], ("answered", 0, 1))
        # The run was one of version 1 with the value 0 again, so field 0 is 0.
        self.assertEqual(state, (0, 1, (0,), ((1, 1),), (((0, None, ()), (0, None, ())),), (None,), 1, (0, 0, 0)))


if __name__ == "__main__":
    unittest.main()
