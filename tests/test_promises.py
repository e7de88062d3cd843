"""Points 2, 3 and 5: what the program promises as a whole."""

import copy
import unittest

from chance import case
from model import explained
from rollwarden.errors import BadPlan, BadProgram, NotAllowed, RollError
from rollwarden.forms import convert, lost_down, lost_up
from rollwarden.ideal import beside, first_ideal, hidden, signed
from rollwarden.judge import certificate, check, first_pair, judge, next_pair
from rollwarden.least import least
from rollwarden.lines import holds, run, value_of, whole
from rollwarden.machine import acts, after, start
from rollwarden.plans import Plan
from rollwarden.program import Program
from rollwarden.records import all_records, number_of, record_at, record_count
from rollwarden.unused import unused_from, used_versions
from samples import behind, counter, switching, two_stores

STEP = ("step",)
TURN = ("turn", 1)
TURNED = ("turned",)
FLIP = ("flip", 0, 1)
ASK = ("ask", 0, 0, 1, 0)
IDEALS = [(0, (2,), ((0, 0, 1),)), (1, (1,), ((),)), (0, (2,), ((0, 0, 1),)), (0, (1,), ((1, 3),))]


def calls():
    """A call of each function of the interface: a function, its arguments, and whether it returns a list."""
    program = counter(asks=2)
    plan = Plan(program, [TURN, ("move", 0, 1), TURNED], undo=True)
    state = behind(program, [STEP], plan.steps, True)
    asked = behind(program, [STEP, ASK], plan.steps, True)
    small = switching()
    good = Plan(small, [TURN, FLIP, TURNED])
    bad = Plan(small, [FLIP, TURN, TURNED])
    rows = certificate(small, good, 100)
    offers = [[TURN, FLIP, ("final",), TURNED], [TURN, FLIP, TURNED], [FLIP]]
    wants = [("switch", 0, 1), ("release", 1)]
    return [
        (record_count, [(2, 3)]),
        (number_of, [[2, 3], [1, 2]]),
        (record_at, [(2, 3), 5]),
        (convert, [program, 0, 0, 1, 2]),
        (lost_up, [program, 0, 0]),
        (lost_down, [program, 0, 0]),
        (value_of, [("field", 1), [1, 2], (0,), 0, -1]),
        (holds, [(("field", 1), "<", ("arg",)), [1, 2], (0,), 3, -1]),
        (run, [program, 0, 0, 0, 1, (0,), 0, -1, 2]),
        (whole, [program, 1, (2,), 0, 1]),
        (start, [program]),
        (acts, [program, plan, state]),
        (after, [program, plan, state, STEP]),
        (first_ideal, [program]),
        (hidden, [program, plan, state, IDEALS[0]]),
        (beside, [program, plan, state, list(IDEALS)]),
        (signed, [list(IDEALS), ()]),
        (signed, [list(IDEALS), ("asked", 0, 1, 0)]),
        (signed, [list(IDEALS), ("answered", 0, 3)]),
        (signed, [list(IDEALS), ("turned", 1)]),
        (signed, [list(IDEALS), ("returned", 1)]),
        (first_pair, [program, plan]),
        (next_pair, [program, plan, (state, tuple(IDEALS)), STEP]),
        (judge, [small, good, 100]),
        (judge, [small, bad, 100]),
        (judge, [small, good, 5]),
        (certificate, [small, good, 100]),
        (certificate, [small, bad, 100]),
        (check, [small, good, list(rows)]),
        (check, [small, good, list(rows[:-1])]),
        (least, [small, offers, wants, 14]),
        (least, [small, offers, wants, 1]),
        (used_versions, [program, plan, asked, ("take", 0, 0, -1)]),
        (used_versions, [program, plan, state, STEP]),
        (unused_from, [program, plan, 0, 0, 1000]),
        (unused_from, [program, plan, 0, 0, 10]),
    ]


def parts(value):
    """A copy of all that can be seen of an argument."""
    if isinstance(value, Plan):
        return (parts(value.program), value.steps, value.undo, value.turns, sorted(vars(value)))
    if isinstance(value, Program):
        return sorted(copy.deepcopy(vars(value)).items(), key=lambda item: item[0])
    return copy.deepcopy(value)


def lists(value):
    """The lists that an answer consists of, in their order."""
    found = [value] if isinstance(value, list) else []
    if isinstance(value, (list, tuple)):
        for part in value:
            found += lists(part)
    return found


class TestArguments(unittest.TestCase):
    def test_they_are_as_they_were(self):
        for function, given in calls():
            with self.subTest(function=function.__name__):
                before = [parts(argument) for argument in given]
                function(*given)
                self.assertEqual([parts(argument) for argument in given], before)

    def test_a_generator_too(self):
        sizes = [2, 3]
        self.assertEqual(len(list(all_records(sizes))), 6)
        self.assertEqual(sizes, [2, 3])

    def test_the_methods_of_a_plan(self):
        program = counter()
        plan = Plan(program, [TURN, ("raise", 0, 0, 1), FLIP, ("move", 0, 1), TURNED, ("final",)])
        before = parts(plan)
        told = [
            plan.version_at(0, 0, 5), plan.value_at(0, 5), plan.form_at(0, 5), plan.fixed(6), plan.is_open(1, 2),
            plan.turn_of(4), plan.release_of(1)]
        self.assertEqual(told, [1, 1, 1, 6, True, 1, 1])
        self.assertEqual(parts(plan), before)


class TestAnswers(unittest.TestCase):
    def test_a_second_asking_gives_the_same(self):
        first = [function(*given) for function, given in calls()]
        given_again = calls()
        self.assertEqual([function(*given) for function, given in given_again], first)
        # With the very same objects, in another order.
        self.assertEqual([function(*given) for function, given in reversed(given_again)], first[::-1])

    def test_lists_are_new_ones(self):
        told = 0
        for function, given in calls():
            with self.subTest(function=function.__name__):
                answer = function(*given)
                kept = copy.deepcopy(answer)
                again = function(*given)
                passed = [id(found) for argument in given for found in lists(argument)]
                for one, other in zip(lists(answer), lists(again)):
                    told += 1
                    self.assertIsNot(one, other)
                    self.assertNotIn(id(one), passed)
                    one.append("spoiled")
                self.assertEqual(function(*given), kept)
        self.assertGreater(told, 10)

    def test_kinds_of_answers(self):
        kinds = {
            record_count: int, number_of: int, record_at: tuple, convert: int, holds: bool, run: tuple, whole: tuple,
            start: tuple, acts: list, after: tuple, first_ideal: tuple, hidden: list, beside: tuple, signed: list,
            first_pair: tuple, next_pair: tuple, judge: tuple, check: bool, least: tuple, unused_from: tuple}
        for function, given in calls():
            if function in kinds:
                self.assertIs(type(function(*given)), kinds[function], function.__name__)

    def test_programs_and_plans_do_not_influence_each_other(self):
        cases = [case(seed) for seed in range(0, 40, 2)]
        first = [judge(program, plan, 60) for program, plan in cases]
        least_ones = [least(program, [list(plan.steps)], [], 30) for program, plan in cases]
        self.assertEqual([judge(*case(seed), 60) for seed in range(0, 40, 2)], first)
        self.assertEqual([judge(program, plan, 60) for program, plan in cases[::-1]], first[::-1])
        self.assertEqual([least(program, [list(plan.steps)], [], 30) for program, plan in cases], least_ones)


class TestObjects(unittest.TestCase):
    def test_a_program_does_not_change_with_what_it_was_made_from(self):
        made = two_stores()
        questions, services, releases = list(made.questions), list(made.services), list(made.releases)
        program = Program(questions=questions, services=services, releases=releases)
        before = judge(program, Plan(program, [TURN, TURNED]), 1000)
        for passed in (questions, services, releases):
            passed.clear()
        self.assertEqual(judge(program, Plan(program, [TURN, TURNED]), 1000), before)

    def test_a_plan_does_not_change_with_what_it_was_made_from(self):
        program = switching()
        steps = [TURN, FLIP, TURNED]
        plan = Plan(program, steps)
        steps.clear()
        self.assertEqual(plan.steps, (TURN, FLIP, TURNED))
        self.assertEqual(judge(program, plan, 100), ("one", 14))


class TestErrors(unittest.TestCase):
    def test_what_is_refused_raises_an_error_of_the_program(self):
        program = switching()
        plan = Plan(program, [])
        for error, value, call in (
                (BadProgram, "questions", lambda: Program(questions=(), services=(), releases=())),
                (BadPlan, 1, lambda: Plan(program, [FLIP, TURNED])),
                (NotAllowed, STEP, lambda: after(program, plan, start(program), STEP))):
            self.assertEqual(error.__bases__, (RollError,))
            with self.assertRaises(error) as caught:
                call()
            self.assertEqual(caught.exception.value, value)
        self.assertEqual(RollError.__bases__, (ValueError,))


class TestVerdicts(unittest.TestCase):
    def test_each_verdict_keeps_its_promise(self):
        for seed in range(1000, 1200, 2):
            program, plan = case(seed)
            verdict = judge(program, plan, 100)
            rows = certificate(program, plan, 100)
            self.assertEqual(rows is None, verdict[0] != "one")
            if verdict[0] == "one":
                self.assertEqual(len(rows), verdict[1])
                self.assertTrue(check(program, plan, rows))
            elif verdict[0] == "not one":
                self.assertFalse(explained(program, plan, verdict[1]))
                self.assertTrue(explained(program, plan, verdict[1][:-1]))
            else:
                self.assertEqual(verdict, ("many",))

    def test_no_rows_are_accepted_for_a_plan_that_is_not_one(self):
        program = switching()
        bad = Plan(program, [FLIP, TURN, TURNED])
        rows = certificate(program, Plan(program, [TURN, FLIP, TURNED]), 100)
        pairs = [first_pair(program, bad)]
        for pair in pairs:
            for act in acts(program, bad, pair[0]):
                other = next_pair(program, bad, pair, act)
                if other[1] and other not in pairs:
                    pairs.append(other)
        # The pair without ideal states cannot be left out, nor can another one stand for it.
        for stand_in in range(len(pairs)):
            made = []
            for pair in pairs:
                found = [next_pair(program, bad, pair, act) for act in acts(program, bad, pair[0])]
                made.append((*pair, tuple(pairs.index(other) if other in pairs else stand_in for other in found)))
            self.assertFalse(check(program, bad, made))
            made = [(*row[:2], tuple(target for target in row[2] if target != stand_in)) for row in made]
            self.assertFalse(check(program, bad, made))
        self.assertFalse(check(program, bad, rows))


if __name__ == "__main__":
    unittest.main()
