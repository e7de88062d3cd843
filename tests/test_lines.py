"""Points 23, 24, 25, 30 and 31: expressions, tests, deeds, runs of handlers, and questions done whole."""

import copy
import unittest

from rollwarden.lines import holds, run, value_of, whole
from rollwarden.program import Program
from samples import ARG, GOT, answer, ask

ZERO = ("value", 0)
ONE = ("value", 1)


def single(handler, sizes=(2, 3), args=4, answers=4):
    """A program with two switches whose service 0 has this handler for question 0, and none for question 2."""
    later = (answer(ZERO),)
    return Program(
        questions=((0, args, answers), (1, 3, 2), (0, 1, 1)),
        services=(
            (1, ((sizes, (), (), (handler, None, None)),)),
            (1, (((2,), (), (), (None, later, None)),)),
        ),
        releases=(((0, 0), (0, 1)),),
        switches=2,
    )


def ran(handler, *, arg=0, line=0, got=-1, number=0, values=(0, 1), **more):
    return run(single(handler, **more), 0, 0, 0, arg, values, line, got, number)


class TestValueOf(unittest.TestCase):
    def value(self, expr, fields=(5, 6, 7), values=(0, 1), arg=2, got=3):
        return value_of(expr, fields, values, arg, got)

    def test_a_value(self):
        self.assertEqual([self.value(("value", n)) for n in range(4)], [0, 1, 2, 3])

    def test_the_argument(self):
        self.assertEqual([self.value(ARG, arg=arg) for arg in range(4)], [0, 1, 2, 3])

    def test_the_last_answer(self):
        self.assertEqual([self.value(GOT, got=got) for got in range(-1, 4)], [-1, 0, 1, 2, 3])

    def test_a_field(self):
        self.assertEqual([self.value(("field", f)) for f in range(3)], [5, 6, 7])
        self.assertEqual([self.value(("field", f), fields=[3, 0, 1]) for f in range(3)], [3, 0, 1])

    def test_a_switch(self):
        self.assertEqual([self.value(("switch", s)) for s in range(2)], [0, 1])
        self.assertEqual([self.value(("switch", s), values=(1, 0)) for s in range(2)], [1, 0])


class TestHolds(unittest.TestCase):
    def test_none_always_holds(self):
        self.assertIs(holds(None, (0,), (), 0, -1), True)

    def test_the_signs(self):
        expected = {
            "==": [False, True, False],
            "!=": [True, False, True],
            "<": [True, False, False],
        }
        for sign, results in expected.items():
            for arg, result in enumerate(results):
                with self.subTest(sign=sign, arg=arg):
                    self.assertIs(holds((ARG, sign, ONE), (0,), (), arg, -1), result)

    def test_each_side_may_be_any_expression(self):
        fields = [3, 1]
        for expr, value in ((("value", 2), 2), (ARG, 0), (GOT, -1), (("field", 1), 1), (("switch", 1), 1)):
            for other in range(4):
                with self.subTest(expr=expr, other=other):
                    self.assertIs(holds((expr, "==", ("value", other)), fields, (0, 1), 0, -1), value == other)
                    self.assertIs(holds((expr, "<", ("value", other)), fields, (0, 1), 0, -1), value < other)
                    self.assertIs(holds((("value", other), "<", expr), fields, (0, 1), 0, -1), other < value)

    def test_no_answer_is_less_than_each_value(self):
        self.assertIs(holds((GOT, "<", ZERO), (0,), (), 0, -1), True)
        self.assertIs(holds((GOT, "<", ZERO), (0,), (), 0, 0), False)


class TestRun(unittest.TestCase):
    def test_answer(self):
        self.assertEqual(ran((answer(ARG),), arg=3), (0, 1, ("answer", 3)))

    def test_an_answer_is_reduced_by_the_answers_of_its_own_question(self):
        self.assertEqual(ran((answer(ARG),), arg=3, answers=3), (0, 1, ("answer", 0)))
        self.assertEqual(ran((answer(ARG),), arg=3, answers=2), (0, 1, ("answer", 1)))
        self.assertEqual(ran((answer(ARG),), arg=3, answers=1, args=4), (0, 1, ("answer", 0)))

    def test_an_answer_below_0_is_reduced_to_its_remainder(self):
        self.assertEqual(ran((answer(GOT),), answers=3), (0, 1, ("answer", 2)))
        self.assertEqual(ran((answer(GOT),), answers=1), (0, 1, ("answer", 0)))

    def test_set(self):
        handler = ((None, ("set", 1, ARG)), answer(ZERO))
        self.assertEqual(ran(handler, arg=2, number=3), (5, 2, ("answer", 0)))

    def test_set_is_reduced_by_the_size_of_the_field(self):
        handler = ((None, ("set", 1, ARG)), answer(ZERO))
        self.assertEqual(ran(handler, arg=3, number=5), (3, 2, ("answer", 0)))
        handler = ((None, ("set", 0, ARG)), answer(ZERO))
        self.assertEqual(ran(handler, arg=3, number=1), (4, 2, ("answer", 0)))

    def test_set_below_0_is_reduced_to_its_remainder(self):
        handler = ((None, ("set", 1, GOT)), answer(ZERO))
        self.assertEqual(ran(handler, number=3), (5, 2, ("answer", 0)))

    def test_set_sees_the_field_itself_and_the_switches(self):
        handler = ((None, ("set", 0, ("field", 1))), (None, ("set", 1, ("switch", 1))), answer(("field", 0)))
        self.assertEqual(ran(handler, number=1), (4, 3, ("answer", 1)))
        self.assertEqual(ran(handler, number=1, values=(1, 0)), (3, 3, ("answer", 1)))

    def test_add(self):
        handler = ((None, ("add", 1, 1)), answer(("field", 1)))
        self.assertEqual([ran(handler, number=n) for n in (0, 1, 2)], [
            (1, 2, ("answer", 1)), (2, 2, ("answer", 2)), (0, 2, ("answer", 0))])

    def test_add_0_and_3(self):
        self.assertEqual(ran(((None, ("add", 1, 0)), answer(ZERO)), number=2)[0], 2)
        self.assertEqual(ran(((None, ("add", 1, 3)), answer(ZERO)), number=2)[0], 2)
        self.assertEqual(ran(((None, ("add", 0, 3)), answer(ZERO)), number=2)[0], 5)

    def test_later_lines_see_what_earlier_ones_did(self):
        handler = (
            (None, ("add", 1, 2)),
            ((("field", 1), "==", ("value", 2)), ("set", 0, ONE)),
            ((("field", 0), "==", ONE), ("answer", ("value", 3))),
        )
        self.assertEqual(ran(handler), (5, 3, ("answer", 3)))
        self.assertEqual(ran(handler, number=1), (0, 3, ("answer", 0)))

    def test_a_line_whose_test_does_not_hold_is_passed(self):
        handler = (
            ((ARG, "==", ONE), ("answer", ONE)),
            ((ARG, "<", ONE), ("answer", ("value", 2))),
            answer(("value", 3)),
        )
        self.assertEqual([ran(handler, arg=arg) for arg in range(3)], [
            (0, 2, ("answer", 2)), (0, 1, ("answer", 1)), (0, 3, ("answer", 3))])

    def test_behind_the_last_line_the_answer_is_0(self):
        self.assertEqual(ran(((None, ("set", 1, ONE)),)), (1, 1, ("answer", 0)))
        self.assertEqual(ran((((ARG, "==", ONE), ("answer", ONE)),)), (0, 1, ("answer", 0)))

    def test_ask(self):
        handler = ((None, ("add", 0, 1)), ask(1, ARG), (None, ("add", 1, 1)), answer(GOT))
        self.assertEqual(ran(handler, arg=2), (3, 2, ("ask", 1, 2)))

    def test_the_argument_of_a_question_is_reduced_by_its_arguments(self):
        self.assertEqual(ran((ask(1, ARG),), arg=3), (0, 1, ("ask", 1, 0)))
        self.assertEqual(ran((ask(1, GOT),)), (0, 1, ("ask", 1, 2)))

    def test_from_each_line(self):
        handler = (
            (None, ("add", 1, 1)),
            ask(1, ZERO),
            (None, ("add", 0, 1)),
            ask(1, ONE),
            answer(GOT),
            (None, ("set", 1, ("value", 2))),
        )
        self.assertEqual([ran(handler, line=line, got=2) for line in range(7)], [
            (1, 2, ("ask", 1, 0)),
            (0, 2, ("ask", 1, 0)),
            (3, 4, ("ask", 1, 1)),
            (0, 4, ("ask", 1, 1)),
            (0, 5, ("answer", 2)),
            (2, 6, ("answer", 0)),
            (0, 6, ("answer", 0)),
        ])

    def test_a_run_from_behind_the_last_line_answers_0(self):
        self.assertEqual(ran((answer(ONE),), line=1, number=4), (4, 1, ("answer", 0)))

    def test_the_last_answer_may_be_anything_at_any_line(self):
        for got in range(-1, 4):
            self.assertEqual(ran((answer(GOT),), got=got), (0, 1, ("answer", got % 4)))

    def test_a_refused_question(self):
        for number in (0, 5):
            for arg in (0, 1):
                self.assertEqual(run(single((answer(ONE),)), 0, 0, 2, arg, (0, 1), 0, -1, number),
                                 (number, 0, ("answer", -1)))

    def test_the_version_and_the_service_are_those_that_were_passed(self):
        program = Program(
            questions=((0, 1, 4), (1, 1, 4)),
            services=(
                (1, (
                    ((2,), (), (), ((answer(ZERO),), None)),
                    ((2,), (0, 1), (0, 1), (None, None)),
                    ((4,), (0, 1), (0, 1, 1, 1), (((None, ("add", 0, 3)), answer(ONE)), None)),
                )),
                (1, (((3,), (), (), (None, (answer(("value", 2)),))),)),
            ),
            releases=(((0, 0), ()),),
        )
        self.assertEqual(run(program, 0, 0, 0, 0, (), 0, -1, 1), (1, 1, ("answer", 0)))
        self.assertEqual(run(program, 0, 1, 0, 0, (), 0, -1, 1), (1, 0, ("answer", -1)))
        self.assertEqual(run(program, 0, 2, 0, 0, (), 0, -1, 0), (3, 2, ("answer", 1)))
        self.assertEqual(run(program, 1, 0, 1, 0, (), 0, -1, 2), (2, 1, ("answer", 2)))


def tower():
    """Three services. Question 0 asks 1 and 2; question 1 asks 2 with its own argument; question 2 counts."""
    zero = (
        ask(1, ARG),
        (None, ("set", 0, GOT)),
        ask(2, GOT),
        (None, ("set", 1, GOT)),
        answer(("field", 0)),
    )
    one = (ask(2, ONE), ((GOT, "<", ZERO), ("answer", ONE)), (None, ("add", 0, 1)), answer(GOT))
    two = (((("switch", 0), "==", ONE), ("add", 0, 1)), (None, ("add", 0, 2)), answer(("field", 0)))
    return Program(
        questions=((0, 2, 4), (1, 2, 3), (2, 3, 4)),
        services=(
            (1, (((4, 4), (), (), (zero, None, None)),)),
            (1, (((2,), (), (), (None, one, None)), ((2,), (1, 0), (1, 0), (None, None, None)))),
            (2, (((4,), (), (), (None, None, two)), ((4,), (0, 1, 2, 3), (0, 1, 2, 3), (None, None, None)))),
        ),
        releases=(((0, 0, 0), (0,)), ((0, 0, 0), (1,)), ((0, 0, 1), (0,)), ((0, 1, 0), (0,))),
        switches=1,
    )


class TestWhole(unittest.TestCase):
    def test_a_question_that_asks_none(self):
        self.assertEqual(whole(tower(), 0, (5, 1, 3), 2, 0), ((5, 1, 1), 1))

    def test_a_question_that_asks_one(self):
        # Question 2 leaves and answers 2, and question 1 answers that.
        self.assertEqual(whole(tower(), 0, (7, 1, 0), 1, 0), ((7, 0, 2), 2))

    def test_a_question_that_asks_two_others_one_of_which_asks_again(self):
        # Question 2 is done twice: it leaves and answers 3 first, which question 1 answers reduced by 3, then 1.
        self.assertEqual(whole(tower(), 0, (0, 0, 1), 0, 1), ((1, 1, 1), 0))
        # From 0 it answers 2 and then 0.
        self.assertEqual(whole(tower(), 0, (15, 0, 0), 0, 0), ((8, 1, 0), 2))

    def test_the_values_are_those_of_the_release(self):
        # Question 2 now adds 3: it answers 3, and then 2.
        self.assertEqual(whole(tower(), 1, (0, 0, 0), 0, 0), ((2, 1, 2), 0))

    def test_the_versions_are_those_of_the_release(self):
        # Question 2 is refused: question 1 gets -1 and answers 1, and question 0 gets 1 and then -1.
        self.assertEqual(whole(tower(), 2, (0, 0, 1), 0, 0), ((7, 0, 1), 1))
        # Question 1 is refused: question 0 gets -1, which is 3 in its field, and asks question 2 all the same.
        self.assertEqual(whole(tower(), 3, (0, 0, 1), 0, 0), ((15, 0, 3), 3))

    def test_a_refused_question(self):
        self.assertEqual(whole(tower(), 2, (3, 1, 2), 2, 1), ((3, 1, 2), -1))

    def test_the_answer_before_the_first_question_is_none(self):
        program = single((((GOT, "==", ZERO), ("answer", ONE)), answer(GOT)))
        self.assertEqual(whole(program, 0, (0, 0), 0, 0), ((0, 0), 3))

    def test_the_result_is_made_of_tuples_and_integers(self):
        records, got = whole(tower(), 0, (0, 0, 0), 0, 0)
        self.assertIs(type(records), tuple)
        self.assertEqual([type(number) for number in (*records, got)], [int] * 4)


class TestArguments(unittest.TestCase):
    def test_fields_stay_as_they_were(self):
        fields = [1, 2]
        holds((("field", 0), "<", ("field", 1)), fields, (0, 1), 0, -1)
        value_of(("field", 1), fields, (0, 1), 0, -1)
        self.assertEqual(fields, [1, 2])

    def test_the_program_stays_as_it_was(self):
        program = tower()
        before = copy.deepcopy(vars(program))
        for release in range(4):
            whole(program, release, (0, 0, 0), 0, 1)
        run(program, 0, 0, 0, 0, (0,), 0, -1, 0)
        self.assertEqual(vars(program), before)

    def test_records_stay_as_they_were(self):
        # A list stands in for a tuple here, because a change of a tuple could not be seen.
        records = [0, 0, 0]
        whole(tower(), 0, records, 0, 0)
        self.assertEqual(records, [0, 0, 0])


if __name__ == "__main__":
    unittest.main()
