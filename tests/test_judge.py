"""Points 2 and 74 to 76: pairs and the verdict."""

import itertools
import random
import unittest

from chance import case
from model import explained, meetings, runs, verdict
from rollwarden.ideal import beside, first_ideal, signed
from rollwarden.judge import first_pair, judge, next_pair
from rollwarden.machine import acts, after, start
from rollwarden.plans import Plan
from samples import counter, growing, same, switching, twice, two_stores

STEP = ("step",)
BACK = ("turnback",)
UNSTEP = ("unstep",)
TURNED = ("turned",)
FLIP = ("flip", 0, 1)
ASK = ("ask", 0, 0, 0, 0)
TAKE = ("take", 0, 0, -1)
# As many pairs as no program here has.
ENOUGH = 10000


def ideals_behind(program, plan, run):
    """The ideal states of the pair behind a run."""
    pair = first_pair(program, plan)
    for act in run:
        pair = next_pair(program, plan, pair, act)
    return pair[1]


class TestPairs(unittest.TestCase):
    def test_the_first_pair(self):
        program = switching()
        self.assertEqual(
            first_pair(program, Plan(program, [("turn", 1), TURNED])), (start(program), ((0, (0,), ((),)),)))

    def test_along_a_run(self):
        program = switching()
        plan = Plan(program, [("turn", 1), FLIP, TURNED])
        pair = first_pair(program, plan)
        expected = [
            (ASK, ((0, (0,), ((0, 0, 0),)), (0, (0,), ((1, 0),)))),
            (STEP, (
                (0, (0,), ((0, 0, 0),)), (0, (0,), ((1, 0),)),
                (1, (0,), ((0, 0, 0),)), (1, (0,), ((1, 0),)), (1, (0,), ((1, 1),)))),
            (TAKE, ((0, (0,), ((),)), (1, (0,), ((),)))),
            (STEP, ((0, (0,), ((),)), (1, (0,), ((),)))),
            (STEP, ((1, (0,), ((),)),)),
        ]
        state = start(program)
        for act, ideals in expected:
            state, _ = after(program, plan, state, act)
            pair = next_pair(program, plan, pair, act)
            self.assertEqual(pair, (state, ideals))

    def test_a_turn_that_is_undone(self):
        program = switching()
        plan = Plan(program, [("turn", 1), FLIP, TURNED], undo=True)
        run = [STEP] * 3 + [BACK]
        both = ((0, (0,), ((),)), (1, (0,), ((),)))
        self.assertEqual(ideals_behind(program, plan, run), both[1:])
        self.assertEqual(ideals_behind(program, plan, run + [UNSTEP]), both)
        self.assertEqual(ideals_behind(program, plan, run + [UNSTEP] * 2), both)
        self.assertEqual(ideals_behind(program, plan, run + [UNSTEP] * 3), both[:1])

    def test_a_level_that_may_be_reached_no_more_stays_until_the_turn_is_undone(self):
        program = switching()
        plan = Plan(program, [("turn", 1), TURNED], undo=True)
        both = ((0, (0,), ((),)), (1, (0,), ((),)))
        self.assertEqual(ideals_behind(program, plan, [STEP]), both)
        self.assertEqual(ideals_behind(program, plan, [STEP, BACK]), both)
        self.assertEqual(ideals_behind(program, plan, [STEP, BACK, UNSTEP]), both[:1])

    def test_an_answer_that_no_ideal_state_gives(self):
        program = switching()
        plan = Plan(program, [FLIP, ("turn", 1), TURNED])
        self.assertEqual(ideals_behind(program, plan, [ASK, STEP, TAKE]), ())
        self.assertEqual(ideals_behind(program, plan, [ASK, STEP, TAKE, STEP, STEP]), ())

    def test_the_question_is_done_between_asking_and_answer(self):
        program = growing(asks=2, clients=2)
        plan = Plan(program, [])
        other = ("ask", 1, 0, 0, 0)
        # The second client asks after the first one got its answer: so its answer is the later one.
        self.assertEqual(ideals_behind(program, plan, [ASK, TAKE, other]), (
            (0, (0,), ((), (1, 0))), (0, (1,), ((), (0, 0, 0)))))
        # If it asks before, either may be done first.
        self.assertEqual(ideals_behind(program, plan, [ASK, other, TAKE]), (
            (0, (0,), ((), (1, 0))), (0, (1,), ((), (0, 0, 0)))))
        self.assertEqual(ideals_behind(program, plan, [ASK, other]), (
            (0, (0,), ((0, 0, 0), (0, 0, 0))), (0, (0,), ((1, 0), (1, 1))), (0, (0,), ((1, 1), (1, 0))),
            (0, (1,), ((0, 0, 0), (1, 1))), (0, (1,), ((1, 1), (0, 0, 0)))))

    def test_a_lost_question_may_be_done_or_not(self):
        program = growing(asks=1, losses=1)
        self.assertEqual(
            ideals_behind(program, Plan(program, []), [ASK, ("lose", 0, 0, 0)]),
            ((0, (0,), ((0, 0, 0),)), (0, (1,), ((1, 1),))))

    def test_a_pair_that_is_not_the_one_behind_a_run(self):
        program = counter(clients=2)
        plan = Plan(program, [("turn", 1), TURNED])
        # Neither all hidden acts, nor the order, nor a single one each.
        ideals = ((0, (2,), ((0, 0, 1), ())), (0, (1,), ((), (1, 3))), (0, (2,), ((0, 0, 1), ())))
        state, _ = after(program, plan, start(program), STEP)
        self.assertEqual(
            next_pair(program, plan, (start(program), ideals), STEP), (state, beside(program, plan, state, list(ideals))))

    def test_as_the_parts_tell_by_chance(self):
        for seed in range(0, 300, 2):
            program, plan = case(seed)
            rng = random.Random(seed)
            state = start(program)
            pair = first_pair(program, plan)
            self.assertEqual(pair, (state, beside(program, plan, state, [first_ideal(program)])))
            for act in [rng.random() for _ in range(12)]:
                allowed = acts(program, plan, state)
                if allowed:
                    act = allowed[int(act * len(allowed))]
                    before = pair[1]
                    pair = next_pair(program, plan, pair, act)
                    state, sign = after(program, plan, state, act)
                    self.assertEqual(pair, (state, beside(program, plan, state, signed(before, sign))))


class TestOne(unittest.TestCase):
    def test_no_acts(self):
        program = switching(asks=0)
        self.assertEqual(judge(program, Plan(program, []), 1), ("one", 1))

    def test_each_pair_counts_once(self):
        program = switching()
        # The first pair, the one behind the question, and the one behind the answer.
        self.assertEqual(judge(program, Plan(program, []), ENOUGH), ("one", 3))
        # Each of them before and behind the step.
        self.assertEqual(judge(program, Plan(program, [("final",)]), ENOUGH), ("one", 6))

    def test_a_state_with_other_ideal_states_is_another_pair(self):
        program = switching()
        # Not asked, asked and answered at each of the four places, and two more: behind the flip, the answer 1 tells
        # that the turn is in force, while the answer 0 before the flip leaves that open; and a question that was asked
        # before the turned step may have been done in release 0.
        self.assertEqual(judge(program, Plan(program, [("turn", 1), FLIP, TURNED]), ENOUGH), ("one", 14))

    def test_undone_plans(self):
        program = switching()
        self.assertEqual(judge(program, Plan(program, [("turn", 1), FLIP, TURNED], undo=True), ENOUGH), ("one", 31))

    def test_what_is_no_fault_without_questions(self):
        program = switching(asks=0)
        self.assertEqual(judge(program, Plan(program, [FLIP, ("turn", 1), TURNED]), ENOUGH), ("one", 4))

    def test_a_limit_that_just_suffices(self):
        for program, steps, count in (
                (switching(), [("turn", 1), FLIP, TURNED], 14),
                (growing(asks=2), [("turn", 1), ("raise", 0, 0, 1), ("raise", 0, 1, 1), TURNED], 51)):
            plan = Plan(program, steps)
            for limit in (count, count + 1, ENOUGH):
                self.assertEqual(judge(program, plan, limit), ("one", count))
            for limit in (1, 2, count - 1):
                self.assertEqual(judge(program, plan, limit), ("many",))


class TestNotOne(unittest.TestCase):
    def test_a_flip_outside_of_the_turn(self):
        program = switching()
        self.assertEqual(
            judge(program, Plan(program, [FLIP, ("turn", 1), TURNED]), ENOUGH), ("not one", [ASK, STEP, TAKE]))
        self.assertEqual(
            judge(program, Plan(program, [("turn", 1), TURNED, FLIP]), ENOUGH), ("not one", [STEP, STEP, ASK, TAKE]))

    def test_the_run_leads_along_the_acts_by_which_its_pairs_were_first_met(self):
        program = switching()
        # The pair behind [STEP, ASK] was met as the one behind [ASK, STEP].
        plan = Plan(program, [FLIP, ("turn", 1), TURNED])
        pair = first_pair(program, plan)
        pairs = [next_pair(program, plan, next_pair(program, plan, pair, a), b) for a, b in ((ASK, STEP), (STEP, ASK))]
        self.assertEqual(pairs[0], pairs[1])
        self.assertEqual(judge(program, plan, ENOUGH)[1], [ASK, STEP, TAKE])

    def test_a_raise_outside_of_the_turn(self):
        program = growing(asks=2)
        steps = [("raise", 0, 0, 1), ("raise", 0, 1, 1), ("turn", 1), TURNED]
        self.assertEqual(
            judge(program, Plan(program, steps), ENOUGH), ("not one", [ASK, TAKE, ASK, STEP, TAKE]))

    def test_a_turn_without_its_flip(self):
        program = switching()
        self.assertEqual(
            judge(program, Plan(program, [("turn", 1), TURNED]), ENOUGH), ("not one", [STEP, STEP, ASK, TAKE]))

    def test_a_doubled_question(self):
        program = growing(asks=2, doubles=1)
        double = ("double", 0, 0, 0)
        self.assertEqual(
            judge(program, Plan(program, []), ENOUGH), ("not one", [ASK, double, TAKE, ASK, TAKE, TAKE]))

    def test_questions_that_run_into_each_other(self):
        program = twice(asks=2, clients=2)
        self.assertEqual(judge(program, Plan(program, []), ENOUGH), (
            "not one", [ASK, ("ask", 1, 1, 0, 0), ("take", 0, 0, 1), ("take", 1, 1, -1), ("take", 1, 0, -1)]))

    def test_the_pair_without_ideal_states_needs_no_number(self):
        program = switching()
        plan = Plan(program, [FLIP, ("turn", 1), TURNED])
        # By [ASK, STEP, TAKE], seven pairs have numbers: those behind [], [ASK], [STEP], [ASK, TAKE], [ASK, STEP],
        # [STEP, STEP] and [ASK, TAKE, STEP].
        for limit in (7, 8, ENOUGH):
            self.assertEqual(judge(program, plan, limit), ("not one", [ASK, STEP, TAKE]))
        for limit in range(1, 7):
            self.assertEqual(judge(program, plan, limit), ("many",))

    def test_it_is_found_before_a_limit_that_is_passed_later(self):
        program = growing(asks=2)
        plan = Plan(program, [("raise", 0, 0, 1), ("raise", 0, 1, 1), ("turn", 1), TURNED])
        _, numbered = verdict(program, plan, ENOUGH)
        self.assertEqual(judge(program, plan, len(numbered))[0], "not one")
        self.assertEqual(judge(program, plan, len(numbered) - 1), ("many",))


class TestByChance(unittest.TestCase):
    MOST = 120

    def test_as_a_plain_search(self):
        words = []
        for seed in range(0, 500, 2):
            program, plan = case(seed)
            expected, _ = verdict(program, plan, self.MOST)
            found = judge(program, plan, self.MOST)
            self.assertEqual(found, expected, seed)
            words.append(found[0])
        for word in ("one", "not one", "many"):
            self.assertGreater(words.count(word), 10)

    def test_one_pair_more_or_less(self):
        for seed in range(0, 200, 2):
            program, plan = case(seed)
            expected, numbered = verdict(program, plan, self.MOST)
            if expected != ("many",):
                self.assertEqual(judge(program, plan, len(numbered)), expected, seed)
                self.assertEqual(judge(program, plan, ENOUGH), expected, seed)
                if len(numbered) > 1:
                    self.assertEqual(judge(program, plan, len(numbered) - 1), ("many",), seed)

    def test_the_run_is_the_first_one_that_is_not_explained(self):
        found = 0
        for seed in range(0, 1200, 2):
            program, plan = case(seed)
            told = judge(program, plan, self.MOST)
            if told[0] == "not one" and len(told[1]) <= 4:
                found += 1
                first = next(run for run in runs(program, plan, 4) if not explained(program, plan, run))
                self.assertEqual(told[1], first, seed)
        self.assertGreater(found, 20)

    def test_every_run_is_explained_if_the_verdict_is_one(self):
        for seed in range(0, 160, 2):
            program, plan = case(seed)
            if judge(program, plan, self.MOST)[0] == "one":
                for run in itertools.islice(runs(program, plan, 5), 100):
                    self.assertTrue(explained(program, plan, run), (seed, run))

    def test_long_runs_are_explained_if_the_verdict_is_one(self):
        for seed in range(0, 160, 2):
            program, plan = case(seed)
            if judge(program, plan, self.MOST)[0] != "one":
                continue
            rng = random.Random(seed)
            state, run = start(program), []
            while acts(program, plan, state) and len(run) < 30:
                run.append(rng.choice(acts(program, plan, state)))
                state, _ = after(program, plan, state, run[-1])
            self.assertTrue(explained(program, plan, run), (seed, run))


class TestAskingAgain(unittest.TestCase):
    def test_the_same_verdict_with_other_plans_in_between(self):
        program = switching()
        other = two_stores(asks=2, clients=2)
        good = Plan(program, [("turn", 1), FLIP, TURNED])
        bad = Plan(program, [FLIP, ("turn", 1), TURNED])
        askings = [(program, good, 100), (program, bad, 100), (program, good, 5), (other, Plan(other, []), 100)]
        first = [judge(*asking) for asking in askings]
        self.assertEqual([told[0] for told in first], ["one", "not one", "many", "one"])
        self.assertEqual([judge(*asking) for asking in reversed(askings)], first[::-1])
        self.assertEqual([judge(*asking) for asking in askings], first)

    def test_the_same_verdict_with_a_greater_limit(self):
        program = same(asks=2)
        plan = Plan(program, [("turn", 1), ("raise", 0, 0, 1), ("raise", 0, 1, 1), TURNED], undo=True)
        told = judge(program, plan, ENOUGH)
        self.assertEqual(told[0], "one")
        for more in range(3):
            self.assertEqual(judge(program, plan, told[1] + more), told)

    def test_the_run_is_a_new_list(self):
        program = switching()
        plan = Plan(program, [FLIP, ("turn", 1), TURNED])
        told = judge(program, plan, ENOUGH)
        told[1].clear()
        self.assertEqual(judge(program, plan, ENOUGH), ("not one", [ASK, STEP, TAKE]))

    def test_what_the_plain_search_meets_first(self):
        program = switching()
        plan = Plan(program, [])
        self.assertEqual([run for _, run in meetings(program, plan)], [[], [ASK], [ASK, TAKE]])


if __name__ == "__main__":
    unittest.main()
