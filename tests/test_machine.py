"""Points 5, 50 to 52, 55 and 58: the first state, the allowed acts, and what clients and their messages do."""

import copy
import unittest

from rollwarden.errors import NotAllowed, RollError
from rollwarden.machine import acts, after, start
from rollwarden.plans import Plan
from samples import behind, chain, counter, play, twice

ORDER = ("ask", "take", "go", "lose", "double", "crash", "step", "turnback", "unstep")


def plan_of(program, steps=(), undo=False):
    return Plan(program, steps, undo=undo)


def words(found):
    return [act[0] for act in found]


def reached(program, plan, limit):
    """At most so many states, each one with the acts that it allows."""
    states = [start(program)]
    known = set(states)
    for state in states:
        for act in acts(program, plan, state):
            target = after(program, plan, state, act)[0]
            if target not in known and len(known) < limit:
                known.add(target)
                states.append(target)
    return [(state, acts(program, plan, state)) for state in states]


class TestStart(unittest.TestCase):
    def test_the_parts(self):
        program = counter(clients=2, losses=1, doubles=2, crashes=1)
        cell = (0, None, ())
        self.assertEqual(start(program), (0, 0, (0,), ((0, 0),), ((cell, cell),), (None, None), 0, (1, 2, 1)))

    def test_several_services(self):
        cell = (0, None, ())
        self.assertEqual(start(chain((1, 2, 1))), (
            0, 0, (), ((0, 0),) * 3, ((cell,), (cell, cell), (cell,)), (None,), 0, (0, 0, 0)))

    def test_versions_and_values_are_those_of_release_0(self):
        program = counter()
        turned = type(program)(questions=program.questions, services=program.services,
                               releases=program.releases[::-1], switches=1)
        cell = (1, None, ())
        self.assertEqual(start(turned), (0, 0, (1,), ((1, 0),), ((cell, cell),), (None,), 0, (0, 0, 0)))


class TestAfter(unittest.TestCase):
    def test_the_result_is_a_pair(self):
        program = counter()
        result = after(program, plan_of(program), start(program), ("ask", 0, 0, 1, 1))
        message = (0, 1, 0, 0, 0)
        self.assertEqual(result, (
            (0, 0, (0,), ((0, 0),), (((0, None, ()), (0, None, (message,))),), ((0, 0, 1),), 1, (0, 0, 0)),
            ("asked", 0, 0, 1)))
        self.assertIs(type(result), tuple)

    def test_what_is_not_allowed(self):
        program = counter()
        plan = plan_of(program)
        state = behind(program, [("ask", 0, 0, 1, 0)])
        wrong = [
            (), ("",), ("rest",), ("ask",), ("ask", 0, 0, 1, 0), ("take",), ("take", 0), ("take", 0, 0), ("take", 0, 0, 0),
            ("take", 0, 1, -1), ("take", 0, 0, -1, 0), ("take", 1, 0, -1), ("go", 0, 0, -1), ("lose", 0, 0, 0),
            ("double", 0, 0, 0), ("crash", 0, 0), ("step",), ("turnback",), ("unstep",), (0, 0, 0), ("take", "0", 0, -1),
        ]
        for act in wrong:
            with self.subTest(act=act):
                with self.assertRaises(NotAllowed) as held:
                    after(program, plan, state, act)
                self.assertEqual(held.exception.value, act)
                self.assertIsInstance(held.exception, RollError)

    def test_true_and_false_are_no_numbers(self):
        program = counter(losses=1)
        plan = plan_of(program, [("flip", 0, 1)])
        for act in (("ask", 0, 0, True, 0), ("ask", False, 0, 1, 0)):
            with self.assertRaises(NotAllowed) as held:
                after(program, plan, start(program), act)
            self.assertIs(held.exception.value, act)
        state = behind(program, [("ask", 0, 0, 1, 0)])
        for act in (("take", 0, False, -1), ("lose", 0, 0, False)):
            with self.assertRaises(NotAllowed):
                after(program, plan, state, act)

    def test_acts_with_numbers_of_any_size_are_not_allowed(self):
        program = counter(asks=2, losses=1, doubles=1, crashes=1)
        plan = plan_of(program, [("final",)], undo=True)
        state = behind(program, [("ask", 0, 0, 1, 0)])
        for act in acts(program, plan, state):
            for index in range(len(act) + 1):
                for number in (10 ** 50, 10 ** 5000, -(10 ** 5000)):
                    # In place of each part, and behind the last one.
                    wrong = act[:index] + (number,) + act[index + 1:]
                    with self.subTest(act=act, index=index):
                        with self.assertRaises(NotAllowed) as held:
                            after(program, plan, state, wrong)
                        self.assertIs(held.exception.value, wrong)

    def test_exactly_the_acts_that_are_listed_are_allowed(self):
        program = chain((1, 2, 1), asks=2, losses=1, doubles=1, crashes=1)
        plan = plan_of(program, [("raise", 1, 0, 0), ("turn", 0), ("turned",)], undo=True)
        states = reached(program, plan, 150)
        known = sorted({act for _, found in states for act in found})
        self.assertEqual(set(words(known)), set(ORDER))
        for state, found in states:
            for act in known:
                if act in found:
                    after(program, plan, state, act)
                else:
                    with self.assertRaises(NotAllowed):
                        after(program, plan, state, act)


class TestActs(unittest.TestCase):
    def test_at_the_start(self):
        program = counter(clients=2, losses=2, doubles=2, crashes=2)
        self.assertEqual(acts(program, plan_of(program, undo=True), start(program)), [
            ("ask", client, question, arg, instance)
            for client in (0, 1) for question, arg in ((0, 0), (0, 1), (1, 0)) for instance in (0, 1)])

    def test_all_kinds_in_their_order(self):
        program = twice(clients=2, asks=3, losses=1, doubles=1, crashes=1)
        plan = plan_of(program, [("turn", 0), ("turned",)], undo=True)
        run = [("step",), ("ask", 0, 1, 1, 0), ("ask", 1, 0, 0, 0), ("take", 0, 0, 1), ("take", 1, 1, -1)]
        state = behind(program, run, plan.steps, True)
        self.assertEqual(acts(program, plan, state), [
            ("take", 1, 0, -1),
            ("go", 0, 0, 0), ("go", 0, 0, 1),
            ("lose", 1, 0, 0),
            ("double", 1, 0, 0),
            ("crash", 0, 0), ("crash", 1, 0),
            ("step",),
            ("turnback",),
        ])
        state, _ = after(program, plan, state, ("turnback",))
        self.assertEqual(words(acts(program, plan, state)), [
            "take", "go", "go", "lose", "double", "crash", "crash", "unstep"])

    def test_all_states_keep_the_order(self):
        program = chain((2, 2, 1), clients=2, asks=2, losses=1, doubles=1, crashes=1)
        plan = plan_of(program, [("move", 0, 0), ("final",), ("drained", 1, 0)], undo=True)
        for _, found in reached(program, plan, 400):
            self.assertEqual(found, sorted(set(found), key=lambda act: (ORDER.index(act[0]), act)))

    def test_each_call_returns_a_new_list(self):
        program = counter()
        plan = plan_of(program)
        state = start(program)
        found = acts(program, plan, state)
        before = list(found)
        found.clear()
        self.assertEqual(acts(program, plan, state), before)
        self.assertIs(type(found), list)


class TestAsk(unittest.TestCase):
    def asks(self, program, state):
        return [act for act in acts(program, plan_of(program), state) if act[0] == "ask"]

    def test_serials_and_signs(self):
        program = counter(clients=2, asks=3)
        plan = plan_of(program)
        run = [("ask", 1, 1, 0, 0), ("ask", 0, 0, 1, 0), ("take", 0, 0, -1), ("ask", 1, 0, 0, 1)]
        state, signs = play(program, plan, run)
        self.assertEqual(signs, [("asked", 1, 1, 0), ("asked", 0, 0, 1), ("answered", 1, 1), ("asked", 1, 0, 0)])
        self.assertEqual(state[5:7], (((1, 0, 1), (2, 0, 0)), 3))
        self.assertEqual(state[4], (((0, None, ((0, 1, 0, 0, 1),)), (0, None, ((0, 0, 0, 1, 2),))),))

    def test_a_client_that_waits_does_not_ask(self):
        program = counter(clients=2, asks=3)
        self.assertEqual({act[1] for act in self.asks(program, start(program))}, {0, 1})
        self.assertEqual({act[1] for act in self.asks(program, behind(program, [("ask", 0, 0, 0, 0)]))}, {1})
        self.assertEqual({act[1] for act in self.asks(program, behind(program, [("ask", 1, 0, 0, 0)]))}, {0})

    def test_not_more_than_asks(self):
        for asks in (0, 1, 2, 3):
            program = counter(asks=asks)
            run = [("ask", 0, 0, 0, 0), ("take", 0, 0, -1)] * asks
            if asks > 0:
                self.assertNotEqual(self.asks(program, behind(program, run[:-2])), [])
            self.assertEqual(self.asks(program, behind(program, run)), [])

    def test_a_full_queue_takes_no_question(self):
        program = counter(clients=2, asks=3, doubles=1)
        state = behind(program, [("ask", 0, 0, 0, 1), ("double", 0, 1, 0)])
        self.assertEqual([act[-1] for act in self.asks(program, state)], [0, 0, 0])
        state = behind(program, [("ask", 0, 0, 0, 1)])
        self.assertEqual([act[-1] for act in self.asks(program, state)], [0, 1] * 3)

    def test_the_instance_is_one_of_the_service_of_the_question(self):
        program = chain((1, 2, 1))
        self.assertEqual(self.asks(program, start(program)), [
            ("ask", 0, 0, 0, 0), ("ask", 0, 0, 1, 0),
            ("ask", 0, 1, 0, 0), ("ask", 0, 1, 0, 1), ("ask", 0, 1, 1, 0), ("ask", 0, 1, 1, 1),
            ("ask", 0, 2, 0, 0), ("ask", 0, 2, 1, 0),
        ])
        self.assertEqual(behind(program, [("ask", 0, 1, 1, 1)])[4][1], ((0, None, ()), (0, None, ((1, 1, 0, 0, 0),))))


class TestLose(unittest.TestCase):
    def test_what_is_left(self):
        program = counter(clients=2, asks=2, losses=2)
        run = [("ask", 0, 0, 0, 0), ("ask", 1, 0, 1, 0)]
        first, second = (0, 0, 0, 0, 0), (0, 1, 0, 1, 1)
        self.assertEqual(behind(program, run)[4][0][0], (0, None, (first, second)))
        for index, left in ((0, second), (1, first)):
            state, signs = play(program, plan_of(program), run + [("lose", 0, 0, index)])
            self.assertEqual(state[4][0], ((0, None, (left,)), (0, None, ())))
            # The client is not told.
            self.assertEqual(state[5:], (((0, 0, 0), (1, 0, 1)), 2, (1, 0, 0)))
            self.assertEqual(signs[-1], ())

    def test_only_while_there_is_a_budget(self):
        program = counter(clients=2, asks=2, losses=1)
        plan = plan_of(program)
        state = behind(program, [("ask", 0, 0, 0, 0), ("ask", 1, 0, 1, 0)])
        self.assertEqual([act for act in acts(program, plan, state) if act[0] == "lose"],
                         [("lose", 0, 0, 0), ("lose", 0, 0, 1)])
        state, _ = after(program, plan, state, ("lose", 0, 0, 1))
        self.assertEqual(state[7], (0, 0, 0))
        self.assertNotIn("lose", words(acts(program, plan, state)))

    def test_only_messages_of_clients(self):
        program = chain(clients=2, asks=2, losses=2)
        state = behind(program, [("ask", 0, 0, 1, 0), ("take", 0, 0, 0), ("ask", 1, 1, 0, 0)])
        self.assertEqual(state[4][1][0][2], ((1, 1, 1, 0, 0), (1, 0, 0, 1, 1)))
        self.assertEqual([act for act in acts(program, plan_of(program), state) if act[0] == "lose"],
                         [("lose", 1, 0, 1)])


class TestDouble(unittest.TestCase):
    def doubles(self, program, state):
        return [act for act in acts(program, plan_of(program), state) if act[0] == "double"]

    def test_what_is_left(self):
        program = counter(doubles=2)
        state, signs = play(program, plan_of(program), [("ask", 0, 0, 1, 1), ("double", 0, 1, 0)])
        message = (0, 1, 0, 0, 0)
        self.assertEqual(state[4][0], ((0, None, ()), (0, None, (message, message))))
        self.assertEqual(state[5:], (((0, 0, 1),), 1, (0, 1, 0)))
        self.assertEqual(signs[-1], ())

    def test_only_while_there_is_a_budget(self):
        program = counter(asks=2, doubles=1)
        run = [("ask", 0, 0, 1, 0)]
        self.assertEqual(self.doubles(program, behind(program, run)), [("double", 0, 0, 0)])
        run += [("double", 0, 0, 0), ("take", 0, 0, -1)]
        self.assertEqual(self.doubles(program, behind(program, run)), [])

    def test_a_full_queue_has_no_room(self):
        program = counter(clients=2, asks=2, doubles=2)
        self.assertEqual(self.doubles(program, behind(program, [("ask", 0, 0, 1, 0), ("ask", 1, 0, 1, 0)])), [])
        self.assertEqual(self.doubles(program, behind(program, [("ask", 0, 0, 1, 0), ("ask", 1, 0, 1, 1)])),
                         [("double", 0, 0, 0), ("double", 0, 1, 0)])
        self.assertEqual(self.doubles(program, behind(program, [("ask", 0, 0, 1, 0), ("double", 0, 0, 0)])), [])

    def test_only_messages_of_clients(self):
        program = chain(doubles=2)
        self.assertEqual(self.doubles(program, behind(program, [("ask", 0, 0, 1, 0), ("take", 0, 0, 0)])), [])


class TestInvariants(unittest.TestCase):
    def check(self, state):
        works = {}
        asked = []
        for service, row in enumerate(state[4]):
            for instance, (_, work, queue) in enumerate(row):
                self.assertLessEqual(len(queue), 2)
                if work is not None:
                    works[service, instance] = work
                asked += [item[-2:] for item in (*queue, *([work] if work else [])) if item[-3] == 1]
        waiting = sorted(pair for pair, work in works.items() if work[4] == 1)
        # Each work that waits has asked one question that is still there, and no other work has.
        self.assertEqual(sorted(asked), waiting)
        self.assertTrue(all(work[3] == -1 for work in works.values() if work[4] == 1))
        self.assertTrue(all(budget >= 0 for budget in state[7]))

    def check_type(self, part):
        if isinstance(part, tuple):
            for item in part:
                self.check_type(item)
        elif part is not None:
            self.assertIs(type(part), int)

    def test_each_state_that_is_reached(self):
        program = chain((1, 2, 1), clients=2, asks=2, losses=1, doubles=1, crashes=1)
        plan = plan_of(program, [("raise", 1, 0, 0)])
        for state, _ in reached(program, plan, 1500):
            self.check(state)
            self.check_type(state)


class TestArguments(unittest.TestCase):
    def test_they_stay_as_they_were(self):
        program = twice(clients=2, asks=2, losses=1, doubles=1, crashes=1)
        plan = plan_of(program, [("turn", 0), ("move", 1, 0), ("turned",)], undo=True)
        before = copy.deepcopy((vars(program), plan.steps, plan.turns, plan.undo))
        for state, found in reached(program, plan, 300):
            kept = copy.deepcopy(state)
            for act in found:
                after(program, plan, state, act)
            self.assertEqual(state, kept)
        self.assertEqual((vars(program), plan.steps, plan.turns, plan.undo), before)


if __name__ == "__main__":
    unittest.main()
