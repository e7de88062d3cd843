"""Points 53, 54 and 58: runs of instances, their questions, and where their answers go."""

import unittest

from rollwarden.machine import acts
from rollwarden.plans import Plan
from samples import behind, chain, counter, play, twice

RAISED = [("raise", 0, 1, 1)]
TO_TOP = [("raise", 0, 0, 1), ("flip", 0, 1)]


def runs(program, run, steps=()):
    """The allowed acts by which instances run, behind this run."""
    found = acts(program, Plan(program, steps), behind(program, run, steps))
    return [act for act in found if act[0] in ("take", "go")]


def signs(program, run, steps=()):
    return play(program, Plan(program, steps), run)[1]


class TestRecords(unittest.TestCase):
    def test_the_record_that_the_run_leaves(self):
        program = counter(asks=3)
        run = [("ask", 0, 0, 1, 0), ("take", 0, 0, -1), ("ask", 0, 0, 1, 1), ("take", 0, 1, -1)]
        self.assertEqual(behind(program, run[:2])[3], ((0, 1),))
        self.assertEqual(behind(program, run)[3], ((0, 2),))
        self.assertEqual(signs(program, run)[1::2], [("answered", 0, 1), ("answered", 0, 2)])

    def test_it_is_converted_to_the_version_of_the_instance(self):
        program = counter(asks=3)
        run = [("step",), ("ask", 0, 0, 0, 1), ("take", 0, 1, -1)]
        # Record 0 of version 0 is (1, 1) in version 1, and becomes (0, 1).
        self.assertEqual(behind(program, run, RAISED)[3], ((1, 1),))
        self.assertEqual(signs(program, run, RAISED)[-1], ("answered", 0, 1))

    def test_it_is_stored_in_that_form_also_if_no_field_was_changed(self):
        program = counter(asks=3)
        run = [("step",), ("ask", 0, 0, 0, 1), ("take", 0, 1, -1), ("ask", 0, 0, 0, 0), ("take", 0, 0, -1)]
        self.assertEqual(behind(program, run, RAISED)[3], ((0, 0),))
        self.assertEqual(signs(program, run, RAISED)[-1], ("answered", 0, 0))

    def test_a_refused_question_touches_no_record(self):
        program = counter(asks=3)
        run = [("ask", 0, 0, 1, 0), ("take", 0, 0, -1), ("step",), ("ask", 0, 1, 0, 1), ("take", 0, 1, -1)]
        self.assertEqual(signs(program, run, RAISED)[-1], ("answered", 0, -1))
        # The record still lies in the form of version 0.
        self.assertEqual(behind(program, run, RAISED)[3], ((0, 1),))

    def test_the_values_are_those_of_the_state(self):
        program = counter(asks=2)
        run = [("step",), ("step",), ("ask", 0, 0, 0, 0), ("take", 0, 0, -1)]
        self.assertEqual(behind(program, run, TO_TOP)[3], ((1, 3),))
        self.assertEqual(behind(program, [run[0], *run[2:]], TO_TOP)[3], ((1, 1),))

    def test_a_message_is_run_in_the_version_that_the_instance_has_then(self):
        program = counter(asks=2)
        run = [("ask", 0, 1, 0, 1), ("step",), ("take", 0, 1, -1)]
        self.assertEqual(signs(program, run, RAISED)[-1], ("answered", 0, -1))
        self.assertEqual(signs(program, [run[0], run[2]], RAISED)[-1], ("answered", 0, 1))


class TestTake(unittest.TestCase):
    def test_the_oldest_message_is_taken_off(self):
        program = counter(clients=2, asks=2)
        run = [("ask", 0, 1, 0, 0), ("ask", 1, 0, 1, 0), ("take", 0, 0, -1)]
        state = behind(program, run)
        self.assertEqual(state[4][0][0], (0, None, ((0, 1, 0, 1, 1),)))
        self.assertEqual(state[5], (None, (1, 0, 1)))
        self.assertEqual(signs(program, run)[-1], ("answered", 0, 1))

    def test_each_instance_with_a_message_and_no_work(self):
        program = counter(clients=2, asks=2)
        self.assertEqual(runs(program, []), [])
        self.assertEqual(runs(program, [("ask", 0, 0, 0, 1)]), [("take", 0, 1, -1)])
        self.assertEqual(runs(program, [("ask", 0, 0, 0, 1), ("ask", 1, 0, 0, 0)]),
                         [("take", 0, 0, -1), ("take", 0, 1, -1)])

    def test_an_instance_with_work_takes_none(self):
        program = chain(clients=2, asks=2)
        run = [("ask", 0, 0, 0, 0), ("take", 0, 0, 0), ("ask", 1, 0, 0, 0)]
        self.assertEqual(runs(program, run), [("take", 1, 0, 0)])

    def test_a_question_of_its_own(self):
        program = twice()
        state, told = play(program, Plan(program, ()), [("ask", 0, 0, 1, 0), ("take", 0, 0, 1)])
        self.assertEqual(state[3], ((0, 4), (0, 0)))
        self.assertEqual(state[4], (
            ((0, (0, 1, 2, -1, 1, 0, 0, 0), ()),),
            ((0, None, ()), (0, None, ((1, 1, 1, 0, 0),))),
        ))
        # The client goes on waiting.
        self.assertEqual(state[5], ((0, 0, 1),))
        self.assertEqual(told[-1], ())

    def test_the_targets_are_the_instances_with_room(self):
        program = chain((1, 2, 1), clients=2, asks=3, doubles=2)
        run = [("ask", 0, 0, 0, 0)]
        self.assertEqual(runs(program, run), [("take", 0, 0, 0), ("take", 0, 0, 1)])
        run += [("ask", 1, 1, 0, 0)]
        self.assertEqual(runs(program, run)[:2], [("take", 0, 0, 0), ("take", 0, 0, 1)])
        run += [("double", 1, 0, 0)]
        self.assertEqual(runs(program, run), [("take", 0, 0, 1), ("take", 1, 0, 0)])

    def test_without_a_target_it_is_not_allowed(self):
        program = chain(clients=2, asks=3, doubles=2)
        run = [("ask", 1, 1, 0, 0), ("double", 1, 0, 0), ("ask", 0, 0, 0, 0)]
        self.assertEqual(runs(program, run), [("take", 1, 0, 0)])
        self.assertEqual(runs(program, run + [("take", 1, 0, 0)]), [("take", 0, 0, 0), ("take", 2, 0, -1)])

    def test_the_message_goes_to_the_end_of_the_queue(self):
        program = chain(clients=2, asks=2)
        state = behind(program, [("ask", 1, 1, 1, 0), ("ask", 0, 0, 0, 0), ("take", 0, 0, 0)])
        self.assertEqual(state[4][1][0][2], ((1, 1, 0, 1, 0), (1, 0, 1, 0, 0)))

    def test_the_origin_is_the_service_and_the_instance(self):
        program = chain((2, 2, 1), clients=1)
        state = behind(program, [("ask", 0, 0, 1, 1), ("take", 0, 1, 0), ("take", 1, 0, 0)])
        self.assertEqual(state[4][0], ((0, None, ()), (0, (0, 1, 1, -1, 1, 0, 0, 0), ())))
        self.assertEqual(state[4][1], ((0, (1, 1, 1, -1, 1, 1, 0, 1), ()), (0, None, ())))
        self.assertEqual(state[4][2], ((0, None, ((2, 1, 1, 1, 0),)),))


class TestGo(unittest.TestCase):
    RUN = (
        ("ask", 0, 0, 1, 0), ("take", 0, 0, 1), ("take", 1, 1, -1),
        ("go", 0, 0, 0), ("take", 1, 0, -1), ("go", 0, 0, -1),
    )

    def test_a_work_that_waits_does_not_go_on(self):
        program = twice()
        self.assertEqual(runs(program, self.RUN[:2]), [("take", 1, 1, -1)])

    def test_the_answer_becomes_what_the_work_got(self):
        program = twice()
        state = behind(program, self.RUN[:3])
        self.assertEqual(state[4][0], ((0, (0, 1, 2, 2, 0, 0, 0, 0), ()),))
        self.assertEqual(state[3], ((0, 4), (0, 2)))
        self.assertEqual(runs(program, self.RUN[:3]), [("go", 0, 0, 0), ("go", 0, 0, 1)])

    def test_the_second_question(self):
        state = behind(twice(), self.RUN[:4])
        self.assertEqual(state[3], ((0, 6), (0, 2)))
        self.assertEqual(state[4], (
            ((0, (0, 1, 4, -1, 1, 0, 0, 0), ()),),
            ((0, None, ((1, 1, 1, 0, 0),)), (0, None, ())),
        ))

    def test_the_answer_to_the_client(self):
        program = twice()
        state = behind(program, self.RUN)
        self.assertEqual(state, (
            0, 0, (), ((0, 6), (0, 1)), (((0, None, ()),), ((0, None, ()), (0, None, ()))), (None,), 1, (0, 0, 0)))
        self.assertEqual(signs(program, self.RUN), [("asked", 0, 0, 1), (), (), (), (), ("answered", 0, 1)])
        self.assertEqual(runs(program, self.RUN[:5]), [("go", 0, 0, -1)])

    def test_the_targets_are_the_instances_with_room(self):
        program = twice(clients=2, asks=3, doubles=1)
        run = [*self.RUN[:3], ("ask", 1, 1, 0, 0), ("double", 1, 0, 0)]
        self.assertEqual(runs(program, run), [("take", 1, 0, -1), ("go", 0, 0, 1)])

    def test_a_refused_question_gives_minus_1(self):
        program = counter()
        front = ((None, ("ask", 1, ("arg",))), (None, ("answer", ("got",))))
        refusing = type(program)(
            questions=((0, 1, 4), (1, 1, 4)),
            services=(
                (1, (((1,), (), (), (front, None)),)),
                (1, (((1,), (), (), (None, None)),)),
            ),
            releases=(((0, 0), ()),))
        run = [("ask", 0, 0, 0, 0), ("take", 0, 0, 0), ("take", 1, 0, -1)]
        self.assertEqual(behind(refusing, run)[4][0], ((0, (0, 0, 1, -1, 0, 0, 0, 0), ()),))
        self.assertEqual(signs(refusing, [*run, ("go", 0, 0, -1)])[-1], ("answered", 0, 3))

    def test_answers_go_up_a_chain(self):
        program = chain((1, 2, 1))
        run = [("ask", 0, 0, 1, 0), ("take", 0, 0, 1), ("take", 1, 1, 0), ("take", 2, 0, -1)]
        self.assertEqual(behind(program, run)[4], (
            ((0, (0, 1, 1, -1, 1, 0, 0, 0), ()),),
            ((0, None, ()), (0, (1, 1, 1, 1, 0, 1, 0, 0), ())),
            ((0, None, ()),),
        ))
        run += [("go", 1, 1, -1)]
        self.assertEqual(behind(program, run)[4], (
            ((0, (0, 1, 1, 1, 0, 0, 0, 0), ()),), ((0, None, ()),) * 2, ((0, None, ()),)))
        run += [("go", 0, 0, -1)]
        self.assertEqual(signs(program, run), [("asked", 0, 0, 1), (), (), (), (), ("answered", 0, 1)])


class TestAnswersToClients(unittest.TestCase):
    def test_one_that_waits_no_more(self):
        program = counter(doubles=1)
        run = [("ask", 0, 0, 1, 0), ("double", 0, 0, 0), ("take", 0, 0, -1), ("take", 0, 0, -1)]
        self.assertEqual(signs(program, run)[2:], [("answered", 0, 1), ()])
        state = behind(program, run)
        self.assertEqual((state[3], state[5]), (((0, 2),), (None,)))
        self.assertEqual(state[4], (((0, None, ()),) * 2,))

    def test_one_that_waits_for_another_serial(self):
        program = counter(asks=2, doubles=1)
        run = [("ask", 0, 0, 1, 0), ("double", 0, 0, 0), ("take", 0, 0, -1), ("ask", 0, 0, 0, 1), ("take", 0, 0, -1)]
        self.assertEqual(signs(program, run)[2:], [("answered", 0, 1), ("asked", 0, 0, 0), ()])
        self.assertEqual(behind(program, run)[5], ((1, 0, 0),))
        self.assertEqual(signs(program, run + [("take", 0, 1, -1)])[-1], ("answered", 0, 2))

    def test_the_client_is_the_one_that_asked(self):
        program = counter(clients=2, asks=2)
        run = [("ask", 1, 0, 1, 1), ("ask", 0, 0, 1, 0), ("take", 0, 1, -1)]
        self.assertEqual(signs(program, run)[-1], ("answered", 1, 1))
        self.assertEqual(behind(program, run)[5], ((1, 0, 1), None))


if __name__ == "__main__":
    unittest.main()
