"""Points 70 to 73, and what point 74 says of the ideal states of a pair: rollwarden.ideal."""

import random
import unittest

from chance import case
from model import hidden_moves
from rollwarden.ideal import beside, first_ideal, hidden, signed
from rollwarden.machine import acts, after, start
from rollwarden.plans import Plan
from samples import behind, chain, counter, same, stairs, switching, two_stores

STEP = ("step",)
BACK = ("turnback",)
UNSTEP = ("unstep",)
TURNED = ("turned",)
TWO_TURNS = [("turn", 1), TURNED, ("turn", 0), TURNED]


def beside_plan(program, steps, run, ideal):
    """The ideal states behind one hidden act, beside the state behind a run of a plan that can be undone."""
    plan = Plan(program, steps, undo=True)
    return hidden(program, plan, behind(program, run, steps, True), ideal)


def as_moves(ideal):
    """An ideal state in the form of the model."""
    level, records, entries = ideal
    words = ("open", "done")
    return level, records, {
        client: (words[entry[0]], *entry[1:]) for client, entry in enumerate(entries) if entry}


def walk(seed, length=12):
    """A program, a plan, and the states of a run of chance."""
    program, plan = case(seed)
    rng = random.Random(seed)
    states = [start(program)]
    for _ in range(length):
        allowed = acts(program, plan, states[-1])
        if allowed:
            states.append(after(program, plan, states[-1], rng.choice(allowed))[0])
    return program, plan, states


def some_ideal(rng, program, plan):
    """Any ideal state, whether it can stand beside a state or not."""
    level = rng.randint(0, len(plan.turns))
    versions = program.releases[plan.release_of(level)][0]
    records = []
    for (_, known), version in zip(program.services, versions):
        count = 1
        for size in known[version][0]:
            count *= size
        records.append(rng.randrange(count))
    entries = []
    for _ in range(program.clients):
        question = rng.randrange(len(program.questions))
        _, args, answers = program.questions[question]
        entries.append(rng.choice([(), (0, question, rng.randrange(args)), (1, rng.randint(-1, answers - 1))]))
    return level, tuple(records), tuple(entries)


class TestFirstIdeal(unittest.TestCase):
    def test_level_records_and_entries(self):
        self.assertEqual(first_ideal(counter()), (0, (0,), ((),)))
        self.assertEqual(first_ideal(chain(clients=2)), (0, (0, 0, 0), ((), ())))


class TestHiddenQuestions(unittest.TestCase):
    def test_an_open_question_is_done_whole(self):
        program = counter()
        self.assertEqual(beside_plan(program, [], [], (0, (1,), ((0, 0, 1),))), [(0, (2,), ((1, 2),))])
        self.assertEqual(beside_plan(program, [], [], (0, (1,), ((0, 0, 0),))), [(0, (1,), ((1, 1),))])

    def test_other_questions_are_asked_with_the_records_as_they_are_then(self):
        program = two_stores()
        # The first service counts, then the second one, which answers with the count.
        self.assertEqual(beside_plan(program, [], [], (0, (1, 1), ((0, 0, 0),))), [(0, (0, 0), ((1, 0),))])
        self.assertEqual(beside_plan(program, [], [], (0, (0, 2), ((0, 0, 0),))), [(0, (1, 1), ((1, 1),))])

    def test_only_open_questions_are_done(self):
        program = counter(clients=2)
        self.assertEqual(beside_plan(program, [], [], (0, (1,), ((), (1, 0)))), [])
        self.assertEqual(beside_plan(program, [], [], (0, (1,), ((1, 2), ()))), [])

    def test_clients_come_in_their_order(self):
        program = counter(clients=2)
        self.assertEqual(
            beside_plan(program, [], [], (0, (2,), ((0, 0, 1), (0, 1, 0)))),
            [(0, (3,), ((1, 3), (0, 1, 0))), (0, (2,), ((0, 0, 1), (1, 1)))])
        self.assertEqual(
            beside_plan(program, [], [], (0, (2,), ((0, 1, 0), (0, 0, 1)))),
            [(0, (2,), ((1, 1), (0, 0, 1))), (0, (3,), ((0, 1, 0), (1, 3)))])

    def test_the_release_in_force_does_it(self):
        program = counter()
        # Version 1 keeps the value of the switch in its field 0, and answers with its field 1.
        self.assertEqual(beside_plan(program, TWO_TURNS, [], (1, (1,), ((0, 0, 1),))), [(1, (3,), ((1, 1),))])
        # Turn 2 leads to release 0 again.
        self.assertEqual(beside_plan(program, TWO_TURNS, [], (2, (1,), ((0, 0, 1),))), [(2, (2,), ((1, 2),))])

    def test_a_refused_question_is_answered_with_minus_one(self):
        self.assertEqual(beside_plan(counter(), TWO_TURNS, [], (1, (2,), ((0, 1, 0),))), [(1, (2,), ((1, -1),))])

    def test_the_values_are_those_of_the_release_and_not_those_of_the_state(self):
        program = switching()
        steps = [("flip", 0, 1), ("turn", 1), TURNED]
        for run in ([], [STEP], [STEP] * 3):
            self.assertEqual(beside_plan(program, steps, run, (0, (0,), ((0, 0, 0),)))[0], (0, (0,), ((1, 0),)))
            self.assertEqual(beside_plan(program, steps, run, (1, (0,), ((0, 0, 0),)))[0], (1, (0,), ((1, 1),)))


class TestHiddenLevels(unittest.TestCase):
    def changes(self, run, level):
        """The levels to which hidden acts lead beside the state behind a run of two turns."""
        return [ideal[0] for ideal in beside_plan(counter(), TWO_TURNS, run, (level, (0,), ((),)))]

    def test_up_only_to_the_turn_that_is_open(self):
        for place, expected in enumerate([([], [], []), ([1], [], []), ([], [], []), ([], [2], []), ([], [], [])]):
            for level in range(3):
                with self.subTest(place=place, level=level):
                    self.assertEqual(self.changes([STEP] * place, level), expected[level])

    def test_down_only_from_the_turn_that_is_open(self):
        cases = {4: ([], [], []), 3: ([], [], [1]), 2: ([], [], []), 1: ([], [0], []), 0: ([], [], [])}
        for place, expected in cases.items():
            for level in range(3):
                with self.subTest(place=place, level=level):
                    run = [STEP] * 4 + [BACK] + [UNSTEP] * (4 - place)
                    self.assertEqual(self.changes(run, level), expected[level])

    def test_a_turn_is_left_as_soon_as_the_plan_is_turned_back(self):
        self.assertEqual(self.changes([STEP, BACK], 0), [])
        self.assertEqual(self.changes([STEP, BACK], 1), [0])

    def test_the_records_of_all_services_are_converted(self):
        program = two_stores()
        steps = [("turn", 1), TURNED]
        for records, up in (((0, 0), (2, 3)), ((1, 1), (1, 0)), ((0, 2), (2, 1))):
            self.assertEqual(beside_plan(program, steps, [STEP], (0, records, ((),))), [(1, up, ((),))])
        for records, down in (((0, 0), (1, 2)), ((2, 3), (0, 0)), ((1, 2), (1, 1))):
            self.assertEqual(beside_plan(program, steps, [STEP, BACK], (1, records, ((),))), [(0, down, ((),))])

    def test_the_records_are_converted_between_the_releases_of_the_levels(self):
        program = two_stores()
        steps = [("turn", 1), TURNED, ("turn", 2), TURNED]
        # Release 2 has version 0 of the first service, and version 1 of the second one, as release 1 has.
        run = [STEP] * 3
        self.assertEqual(beside_plan(program, steps, run, (1, (2, 3), ((),))), [(2, (0, 3), ((),))])
        self.assertEqual(beside_plan(program, steps, run + [BACK], (2, (0, 3), ((),))), [(1, (2, 3), ((),))])

    def test_records_are_converted_step_by_step(self):
        program = stairs()
        steps = [("turn", 1), TURNED]
        self.assertEqual(beside_plan(program, steps, [STEP], (0, (3,), ((),))), [(1, (0,), ((),))])
        self.assertEqual(beside_plan(program, steps, [STEP, BACK], (1, (3,), ((),))), [(0, (1,), ((),))])

    def test_a_turn_to_the_release_that_is_in_force(self):
        program = counter()
        self.assertEqual(beside_plan(program, [("turn", 0), TURNED], [STEP], (0, (2,), ((),))), [(1, (2,), ((),))])

    def test_the_change_of_the_level_comes_last_and_keeps_the_entries(self):
        program = counter(clients=2)
        self.assertEqual(
            beside_plan(program, TWO_TURNS, [STEP], (0, (2,), ((0, 0, 1), (0, 1, 0)))),
            [(0, (3,), ((1, 3), (0, 1, 0))), (0, (2,), ((0, 0, 1), (1, 1))), (1, (1,), ((0, 0, 1), (0, 1, 0)))])
        self.assertEqual(
            beside_plan(program, TWO_TURNS, [STEP], (0, (2,), ((), (1, 3)))), [(1, (1,), ((), (1, 3)))])


class TestHiddenByChance(unittest.TestCase):
    def test_as_the_model(self):
        kinds = set()
        for seed in range(0, 600, 2):
            program, plan, states = walk(seed)
            rng = random.Random(seed)
            for state in states:
                ideal = some_ideal(rng, program, plan)
                found = hidden(program, plan, state, ideal)
                expected = list(hidden_moves(program, plan, state, *as_moves(ideal)))
                self.assertEqual([as_moves(other) for other in found], expected, (seed, state, ideal))
                kinds |= {other[0] - ideal[0] for other in found}
        self.assertEqual(kinds, {-1, 0, 1})


class TestBeside(unittest.TestCase):
    def test_all_that_hidden_acts_lead_to(self):
        program = counter(clients=2)
        plan = Plan(program, [("turn", 1), TURNED])
        state = behind(program, [STEP], plan.steps)
        # Client 0 counts from 2 to 3 in release 0. In release 1, where record 2 is 1 and record 3 is 0, it sets field 0.
        self.assertEqual(beside(program, plan, state, [(0, (2,), ((0, 0, 1), ()))]), (
            (0, (2,), ((0, 0, 1), ())),
            (0, (3,), ((1, 3), ())),
            (1, (0,), ((1, 3), ())),
            (1, (1,), ((0, 0, 1), ())),
            (1, (3,), ((1, 1), ())),
        ))

    def test_these_are_included(self):
        program = counter()
        plan = Plan(program, [])
        self.assertEqual(beside(program, plan, start(program), [first_ideal(program)]), ((0, (0,), ((),)),))
        self.assertEqual(beside(program, plan, start(program), []), ())

    def test_ascending_and_without_duplicates_whatever_the_order(self):
        program = counter(clients=2)
        plan = Plan(program, TWO_TURNS, undo=True)
        ideals = [
            (1, (3,), ((0, 0, 1), (1, -1))), (0, (1,), ((1, 3), ())), (1, (3,), ((0, 0, 1), ())), (0, (1,), ((), ())),
            (1, (0,), ((1, 1), (0, 1, 0)))]
        for run in ([], [STEP], [STEP, BACK], [STEP] * 3, [STEP] * 3 + [BACK]):
            state = behind(program, run, TWO_TURNS, True)
            found = beside(program, plan, state, ideals)
            self.assertEqual(list(found), sorted(set(found)))
            self.assertIsInstance(found, tuple)
            for seed in range(5):
                mixed = ideals + ideals[:seed]
                random.Random(seed).shuffle(mixed)
                self.assertEqual(beside(program, plan, state, mixed), found)

    def test_ascending_part_by_part(self):
        program = counter(clients=2)
        plan = Plan(program, TWO_TURNS)
        ideals = [
            (2, (0,), ((), ())), (0, (3,), ((), ())), (0, (1,), ((1, 0), ())), (0, (1,), ((), (1, 3))),
            (0, (1,), ((), (1, -1))), (0, (1,), ((), ())), (1, (0,), ((), ()))]
        self.assertEqual(beside(program, plan, start(program), ideals), (
            (0, (1,), ((), ())), (0, (1,), ((), (1, -1))), (0, (1,), ((), (1, 3))), (0, (1,), ((1, 0), ())),
            (0, (3,), ((), ())), (1, (0,), ((), ())), (2, (0,), ((), ()))))

    def test_several_hidden_acts_in_every_order(self):
        program = counter(clients=2)
        plan = Plan(program, [])
        self.assertEqual(beside(program, plan, start(program), [(0, (0,), ((0, 0, 1), (0, 0, 1)))]), (
            (0, (0,), ((0, 0, 1), (0, 0, 1))),
            (0, (1,), ((0, 0, 1), (1, 1))),
            (0, (1,), ((1, 1), (0, 0, 1))),
            (0, (2,), ((1, 1), (1, 2))),
            (0, (2,), ((1, 2), (1, 1))),
        ))

    def test_closed_and_the_least_such_by_chance(self):
        for seed in range(0, 300, 2):
            program, plan, states = walk(seed, 6)
            rng = random.Random(seed)
            ideals = [some_ideal(rng, program, plan) for _ in range(3)]
            reached = set(ideals)
            fresh = set(ideals)
            while fresh:
                fresh = {other for ideal in fresh for other in hidden(program, plan, states[-1], ideal)} - reached
                reached |= fresh
            self.assertEqual(beside(program, plan, states[-1], ideals), tuple(sorted(reached)), seed)


class TestSigned(unittest.TestCase):
    IDEALS = [
        (1, (3,), ((1, 2), ())), (0, (0,), ((0, 1, 0), (1, 2))), (2, (1,), ((1, 0), (1, 2))), (0, (0,), ((), (1, -1))),
        (1, (3,), ((1, 1), ())), (1, (3,), ((1, 2), ())),
    ]

    def test_asked(self):
        self.assertEqual(signed(self.IDEALS, ("asked", 1, 0, 3)), [
            (1, (3,), ((1, 2), (0, 0, 3))), (0, (0,), ((0, 1, 0), (0, 0, 3))), (2, (1,), ((1, 0), (0, 0, 3))),
            (0, (0,), ((), (0, 0, 3))), (1, (3,), ((1, 1), (0, 0, 3))), (1, (3,), ((1, 2), (0, 0, 3)))])

    def test_answered(self):
        self.assertEqual(signed(self.IDEALS, ("answered", 0, 2)), [(1, (3,), ((), ())), (1, (3,), ((), ()))])
        self.assertEqual(signed(self.IDEALS, ("answered", 0, 0)), [(2, (1,), ((), (1, 2)))])
        self.assertEqual(
            signed(self.IDEALS, ("answered", 1, 2)), [(0, (0,), ((0, 1, 0), ())), (2, (1,), ((1, 0), ()))])
        self.assertEqual(signed(self.IDEALS, ("answered", 1, -1)), [(0, (0,), ((), ()))])
        self.assertEqual(signed(self.IDEALS, ("answered", 0, 3)), [])

    def test_an_open_question_is_not_answered(self):
        self.assertEqual(signed([(0, (0,), ((0, 1, 0),))], ("answered", 0, 1)), [])
        self.assertEqual(signed([(0, (0,), ((),))], ("answered", 0, 0)), [])

    def test_turned(self):
        for turn, places in ((1, (0, 4, 5)), (2, (2,)), (3, ())):
            self.assertEqual(signed(self.IDEALS, ("turned", turn)), [self.IDEALS[place] for place in places])

    def test_returned(self):
        for turn, places in ((1, (1, 3)), (2, (0, 4, 5)), (3, (2,)), (4, ())):
            self.assertEqual(signed(self.IDEALS, ("returned", turn)), [self.IDEALS[place] for place in places])

    def test_no_sign(self):
        self.assertEqual(signed(self.IDEALS, ()), self.IDEALS)

    def test_equal_ones_stay_as_many_as_they_were(self):
        ideals = [(0, (0,), ((1, 2),)), (0, (0,), ((),)), (0, (0,), ((1, 1),)), (0, (0,), ((),))]
        self.assertEqual(signed(ideals, ("asked", 0, 1, 0)), [(0, (0,), ((0, 1, 0),))] * 4)
        self.assertEqual(signed(ideals * 2, ("answered", 0, 2)), [(0, (0,), ((),))] * 2)
        self.assertEqual(signed(ideals * 2, ()), ideals * 2)

    def test_of_no_ideal_states_nothing_is_left(self):
        for sign in ((), ("asked", 0, 0, 0), ("answered", 0, 0), ("turned", 1), ("returned", 1)):
            self.assertEqual(signed([], sign), [])

    def test_the_list_is_a_new_one(self):
        ideals = list(self.IDEALS)
        for sign in ((), ("asked", 0, 0, 0), ("turned", 1)):
            found = signed(ideals, sign)
            self.assertIsInstance(found, list)
            found.clear()
            self.assertEqual(ideals, self.IDEALS)


class TestIdealStatesOfARun(unittest.TestCase):
    def test_turns_show_that_the_release_is_in_force(self):
        program = same()
        plan = Plan(program, [("turn", 1), TURNED], undo=True)
        ideals = (first_ideal(program),)
        levels = []
        state = start(program)
        for act in (STEP, STEP, BACK, UNSTEP, UNSTEP):
            state, sign = after(program, plan, state, act)
            ideals = beside(program, plan, state, signed(ideals, sign))
            levels.append([ideal[0] for ideal in ideals])
        self.assertEqual(levels, [[0, 1], [1], [1], [0, 1], [0]])


if __name__ == "__main__":
    unittest.main()
