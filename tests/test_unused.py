"""Points 85 and 86: versions that are not used any more."""

import unittest

from chance import case
from model import states_of
from rollwarden.forms import versions_of
from rollwarden.machine import acts, start
from rollwarden.plans import Plan
from rollwarden.program import Program
from rollwarden.unused import unused_from, used_versions
from samples import answer, behind, chain, counter, same, stairs, two_stores

STEP = ("step",)
BACK = ("turnback",)
FINAL = ("final",)
ASK = ("ask", 0, 0, 0, 0)
TAKE = ("take", 0, 0, -1)
RAISE = ("raise", 0, 0, 1)
# As many states as no program here has.
ENOUGH = 10000


def used(program, steps, run, act, undo=False):
    """What an act behind a run uses."""
    plan = Plan(program, steps, undo=undo)
    state = behind(program, run, steps, undo)
    assert act in acts(program, plan, state)
    return used_versions(program, plan, state, act)


def lone(**more):
    """One service with one instance and two versions; the second one refuses question 1."""
    handler = (answer(("field", 0)),)
    return Program(
        questions=((0, 1, 2), (0, 1, 2)),
        services=((1, (((2,), (), (), (handler, handler)), ((2,), (0, 1), (0, 1), (handler, None)))),),
        releases=(((0,), ()), ((1,), ())),
        **more,
    )


class TestUsedByRuns(unittest.TestCase):
    def test_a_take_in_the_form_of_its_own_version(self):
        self.assertEqual(used(stairs(), [], [ASK], TAKE), (0, [0]))
        self.assertEqual(used(chain(), [], [ASK], ("take", 0, 0, 0)), (0, [0]))

    def test_a_take_uses_all_versions_up_to_the_form_of_the_record(self):
        program = stairs()
        for version, versions in ((0, [0]), (1, [0, 1]), (2, [0, 1, 2])):
            self.assertEqual(used(program, [("raise", 0, 0, version)], [STEP, ASK], TAKE), (0, versions))
            self.assertEqual(used(program, [("move", 0, version)], [STEP, ASK], TAKE), (0, versions))

    def test_both_ways(self):
        program = stairs()
        for form, version, versions in ((1, 2, [1, 2]), (2, 1, [1, 2]), (2, 2, [2]), (1, 1, [1])):
            steps = [("move", 0, form), ("raise", 0, 0, version)]
            self.assertEqual(used(program, steps, [STEP, STEP, ASK], TAKE), (0, versions))

    def test_the_form_is_the_one_in_which_the_record_lies_and_not_the_one_of_the_plan(self):
        program = stairs(asks=2)
        run = [STEP, ASK]
        self.assertEqual(used(program, [("move", 0, 2)], run, TAKE), (0, [0, 1, 2]))
        # The first run stores the record in the form of its version.
        self.assertEqual(used(program, [("move", 0, 2)], run + [TAKE, ASK], TAKE), (0, [0]))

    def test_the_version_is_the_one_that_the_instance_has_then(self):
        program = counter()
        for instance, versions in ((0, [0]), (1, [0, 1])):
            run = [("ask", 0, 0, 0, instance), STEP]
            self.assertEqual(used(program, [("raise", 0, 1, 1)], run, ("take", 0, instance, -1)), (0, versions))

    def test_a_handler_that_is_none_uses_the_version_of_the_instance_alone(self):
        program = counter()
        ask = ("ask", 0, 1, 0, 0)
        self.assertEqual(used(program, [RAISE], [STEP, ask], TAKE), (0, [1]))
        self.assertEqual(used(program, [RAISE, ("move", 0, 0)], [STEP, STEP, ask], TAKE), (0, [1]))
        # Version 0 does not refuse it.
        self.assertEqual(used(program, [("move", 0, 1)], [STEP, ask], TAKE), (0, [0, 1]))

    def test_the_oldest_message_is_the_one_that_is_taken(self):
        program = counter(asks=2, clients=2)
        asks = [("ask", 0, 0, 0, 0), ("ask", 1, 1, 0, 0)]
        self.assertEqual(used(program, [RAISE], [STEP] + asks, TAKE), (0, [0, 1]))
        self.assertEqual(used(program, [RAISE], [STEP] + asks[::-1], TAKE), (0, [1]))

    def test_a_go(self):
        program = two_stores()
        run = [ASK, ("take", 0, 0, 0), ("take", 1, 0, -1)]
        self.assertEqual(used(program, [], run, ("go", 0, 0, -1)), (0, [0]))
        # The record may be moved while the work waits.
        self.assertEqual(used(program, [("move", 0, 1)], run + [STEP], ("go", 0, 0, -1)), (0, [0, 1]))
        self.assertEqual(used(program, [("move", 1, 1)], run + [STEP], ("go", 0, 0, -1)), (0, [0]))

    def test_the_service_is_the_one_of_the_instance(self):
        program = two_stores()
        run = [ASK, ("take", 0, 0, 0)]
        self.assertEqual(used(program, [], run, ("take", 1, 0, -1)), (1, [0]))
        self.assertEqual(used(program, [("raise", 1, 0, 1)], run + [STEP], ("take", 1, 0, -1)), (1, [0, 1]))
        self.assertEqual(used(program, [("raise", 1, 0, 1)], [STEP, ASK], ("take", 0, 0, 0)), (0, [0]))


class TestUsedByOtherActs(unittest.TestCase):
    def test_a_move(self):
        program = stairs()
        for form in range(3):
            for version in range(3):
                expected = list(range(min(form, version), max(form, version) + 1))
                self.assertEqual(used(program, [("move", 0, form), ("move", 0, version)], [STEP], STEP), (0, expected))

    def test_a_move_from_the_form_in_which_the_record_lies(self):
        program = stairs()
        steps = [("raise", 0, 0, 1), ("move", 0, 2)]
        self.assertEqual(used(program, steps, [STEP], STEP), (0, [0, 1, 2]))
        self.assertEqual(used(program, steps, [STEP, ASK, TAKE], STEP), (0, [1, 2]))

    def test_a_move_of_another_service(self):
        self.assertEqual(used(two_stores(), [("move", 1, 1)], [], STEP), (1, [0, 1]))
        self.assertEqual(used(two_stores(), [("move", 1, 0)], [], STEP), (1, [0]))

    def test_other_steps_use_none(self):
        program = counter()
        for steps in ([RAISE], [("flip", 0, 1)], [("turn", 1), ("turned",)], [("drained", 0, 1)], [FINAL]):
            self.assertIsNone(used(program, steps, [], STEP))
        self.assertIsNone(used(program, [("turn", 1), ("turned",)], [STEP], STEP))
        self.assertIsNone(used(program, [("move", 0, 1), RAISE], [STEP], STEP))

    def test_undoing_uses_none(self):
        program = counter()
        steps = [("move", 0, 1)]
        self.assertIsNone(used(program, steps, [STEP], BACK, True))
        self.assertIsNone(used(program, steps, [STEP, BACK], ("unstep",), True))

    def test_asks_losses_doubles_and_crashes_use_none(self):
        program = counter(losses=1, doubles=1, crashes=1)
        self.assertIsNone(used(program, [], [], ASK))
        for act in (("lose", 0, 0, 0), ("double", 0, 0, 0), ("crash", 0, 0)):
            self.assertIsNone(used(program, [RAISE], [ASK], act))

    def test_the_list_is_a_new_one(self):
        program = stairs()
        plan = Plan(program, [("move", 0, 2)])
        for run, act in (([], STEP), ([ASK], TAKE)):
            state = behind(program, run, plan.steps)
            found = used_versions(program, plan, state, act)
            kept = list(found[1])
            found[1].clear()
            self.assertEqual(used_versions(program, plan, state, act), (0, kept))


class TestUnusedFrom(unittest.TestCase):
    def tell(self, program, steps, version, undo=False, service=0):
        return unused_from(program, Plan(program, steps, undo=undo), service, version, ENOUGH)

    def test_a_version_that_is_never_used(self):
        program = lone()
        self.assertEqual(self.tell(program, [], 1), ("from", 0))
        self.assertEqual(self.tell(program, [("raise", 0, 0, 0), ("move", 0, 0)], 1), ("from", 0))
        self.assertEqual(self.tell(lone(asks=0), [RAISE], 0), ("from", 0))

    def test_a_version_that_is_used_to_the_end(self):
        program = lone()
        self.assertEqual(self.tell(program, [], 0), ("never",))
        self.assertEqual(self.tell(program, [RAISE], 1), ("never",))

    def test_the_form_of_the_record_keeps_a_version_in_use(self):
        program = lone(asks=2)
        # After the raise, the first take converts the record from version 0.
        self.assertEqual(self.tell(program, [RAISE], 0), ("never",))
        self.assertEqual(self.tell(program, [RAISE, ("move", 0, 1)], 0), ("from", 2))
        # Before the raise is done, the old version brings the record back into its form, if it still has a question.
        self.assertEqual(self.tell(program, [("move", 0, 1), RAISE], 0), ("never",))
        self.assertEqual(self.tell(lone(asks=1), [("move", 0, 1), RAISE], 0), ("from", 2))
        self.assertEqual(self.tell(program, [("move", 0, 1), RAISE, ("move", 0, 1)], 0), ("from", 3))

    def test_the_place_is_the_one_at_which_the_act_is_allowed(self):
        program = lone(asks=0)
        # The move is done at place 1 and uses the versions there; behind it nothing does.
        self.assertEqual(self.tell(program, [FINAL, ("move", 0, 1), ("move", 0, 1)], 0), ("from", 2))
        self.assertEqual(self.tell(program, [FINAL, ("move", 0, 1), ("move", 0, 1)], 1), ("from", 3))
        self.assertEqual(self.tell(program, [("move", 0, 1)], 0), ("from", 1))

    def test_a_plan_with_a_final_step(self):
        program = lone()
        steps = [RAISE, ("move", 0, 1), FINAL]
        self.assertEqual(self.tell(program, steps, 0), ("from", 3))
        self.assertEqual(self.tell(program, steps, 1), ("never",))
        self.assertEqual(self.tell(program, [FINAL, RAISE, ("move", 0, 1)], 0), ("from", 3))
        self.assertEqual(self.tell(program, [FINAL], 0), ("never",))

    def test_not_before_the_first_final_step_is_done(self):
        program = lone(asks=0)
        for steps, place in (([], 0), ([FINAL], 1), ([FINAL, FINAL], 1), ([RAISE, FINAL, RAISE, FINAL], 2)):
            self.assertEqual(self.tell(program, steps, 0), ("from", place))
            self.assertEqual(self.tell(program, steps, 1), ("from", place))

    def test_what_is_used_before_the_final_step_does_not_count(self):
        program = lone(asks=0)
        self.assertEqual(self.tell(program, [("move", 0, 1), FINAL, RAISE], 0), ("from", 2))
        self.assertEqual(self.tell(program, [("move", 0, 1), RAISE], 0), ("from", 1))

    def test_states_that_are_being_undone_do_not_count(self):
        program = lone()
        # Undone, the plan leads back to version 0 at every place; but such states are not settled.
        steps = [RAISE, ("move", 0, 1)]
        self.assertEqual(self.tell(program, steps, 0, True), ("from", 2))
        self.assertEqual(self.tell(program, [FINAL] + steps, 0, True), ("from", 3))

    def test_each_service_has_its_own_versions(self):
        program = two_stores()
        steps = [FINAL, RAISE, ("move", 0, 1)]
        # The raise waits for the work of its instance, and the move brings the record along.
        self.assertEqual(self.tell(program, steps, 0), ("from", 3))
        self.assertEqual(self.tell(program, steps, 1), ("never",))
        self.assertEqual(self.tell(program, steps, 0, service=1), ("never",))
        self.assertEqual(self.tell(program, steps, 1, service=1), ("from", 1))

    def test_two_instances(self):
        program = same(asks=2)
        raises = [("raise", 0, 0, 1), ("raise", 0, 1, 1)]
        self.assertEqual(self.tell(program, [("turn", 1), raises[0], ("turned",), ("move", 0, 1)], 0), ("never",))
        self.assertEqual(self.tell(program, [("turn", 1), *raises, ("turned",), ("move", 0, 1)], 0), ("from", 5))
        self.assertEqual(self.tell(program, [*raises, ("move", 0, 1), FINAL], 0), ("from", 4))

    def test_a_refused_question_uses_the_version(self):
        # Version 1 refuses question 1: it is used by the taking, and version 0 is not.
        handler = (answer(("field", 0)),)
        program = Program(
            questions=((0, 1, 2),),
            services=((1, (((2,), (), (), (handler,)), ((2,), (0, 1), (0, 1), (None,)))),),
            releases=(((0,), ()),),
        )
        self.assertEqual(self.tell(program, [RAISE], 1), ("never",))
        self.assertEqual(self.tell(program, [RAISE], 0), ("from", 1))

    def test_a_limit_that_just_suffices(self):
        program = lone()
        for steps, undo, answers in (
                ([], False, [("never",), ("from", 0)]),
                ([RAISE, ("move", 0, 1)], False, [("from", 2), ("never",)]),
                ([RAISE, ("move", 0, 1), FINAL, FINAL], True, [("from", 3), ("never",)])):
            plan = Plan(program, steps, undo=undo)
            count = len(states_of(program, plan, ENOUGH))
            for version, expected in enumerate(answers):
                for limit in (count, count + 1, ENOUGH):
                    self.assertEqual(unused_from(program, plan, 0, version, limit), expected)
                for limit in (count - 1, count // 2, 1):
                    self.assertEqual(unused_from(program, plan, 0, version, limit), ("many",))

    def test_how_many_states_are_reached(self):
        program = lone(asks=0)
        self.assertEqual(unused_from(program, Plan(program, []), 0, 0, 1), ("from", 0))
        plan = Plan(program, [FINAL, FINAL])
        # States that are not settled count as well.
        self.assertEqual(unused_from(program, plan, 0, 0, 3), ("from", 1))
        self.assertEqual(unused_from(program, plan, 0, 0, 2), ("many",))
        program = lone()
        # The first state, one for each of the two questions, and one behind the answer.
        self.assertEqual(unused_from(program, Plan(program, []), 0, 1, 4), ("from", 0))
        self.assertEqual(unused_from(program, Plan(program, []), 0, 1, 3), ("many",))

    def test_states_are_counted_and_not_pairs(self):
        program = same()
        plan = Plan(program, [("turn", 1), ("turned",)])
        count = len(states_of(program, plan, ENOUGH))
        self.assertEqual(unused_from(program, plan, 0, 1, count), ("from", 0))
        self.assertEqual(unused_from(program, plan, 0, 1, count - 1), ("many",))

    def test_by_chance(self):
        told = []
        for seed in range(0, 300, 2):
            program, plan = case(seed)
            states = states_of(program, plan, 300)
            for service in range(len(program.services)):
                for version in range(len(versions_of(program, service))):
                    found = unused_from(program, plan, service, version, 300)
                    self.assertEqual(found, self.plainly(program, plan, service, version, states), seed)
                    told.append(found[0])
        for word in ("from", "never", "many"):
            self.assertGreater(told.count(word), 20)

    def plainly(self, program, plan, service, version, states):
        """The answer as point 86 tells it: one place after the other."""
        if states is None:
            return ("many",)
        behind_final = [index + 1 for index, made in enumerate(plan.steps) if made == FINAL]
        least = behind_final[0] if behind_final else 0
        places = set()
        for state in states:
            for act in acts(program, plan, state):
                found = used_versions(program, plan, state, act)
                if state[1] == 0 and found is not None and found[0] == service and version in found[1]:
                    places.add(state[0])
        for place in range(least, len(plan.steps) + 1):
            if not any(other >= place for other in places):
                return ("from", place)
        return ("never",)


if __name__ == "__main__":
    unittest.main()
