"""Points 2, 77 and 78: the certificate and the checker."""

import unittest

from chance import case
from rollwarden.judge import certificate, check, first_pair, judge, next_pair
from rollwarden.machine import acts, start
from rollwarden.plans import Plan
from samples import growing, same, switching, two_stores

TURNED = ("turned",)
FLIP = ("flip", 0, 1)
GOOD = [("turn", 1), FLIP, TURNED]
BAD = [FLIP, ("turn", 1), TURNED]
ENOUGH = 10000


def nested(depth):
    """A tuple in a tuple in a tuple, and so on."""
    made = ()
    for _ in range(depth):
        made = (made,)
    return made


STRANGE = [
    (), (None,), ("a", "b"), (0,) * 8, (0, 0, (), (), (), (), 0, (0, 0, 0)), (None,) * 8, ("",) * 8, (((), ()), (1, -1)),
    (99, 0, (0,), ((0, 0),), (((0, None, ()),),), (None,), 0, (0, 0, 0)),
    (0, 0, (0,), ((7, 7),), (((9, None, ()),),), (None,), 0, (0, 0, 0)),
    (0, 0, (0,), ((0, 0),), (((0, (9, 9, 9, 9, 0, 0, 0, 0), ()),),), (None,), 0, (0, 0, 0)),
    (0, 0, (0,), ((0, 0),), (((0, None, ((5, 5, 1, 5, 5),)),),), (None,), 0, (0, 0, 0)),
    (0, 0, (0,), ((0, 0),), (((0, None, ()),),), ((9, 9),), 0, (5, 5, 5)),
    (-1, -1, -1), (10 ** 50,), nested(30), nested(3000),
]


def good():
    """A program and a plan that keeps one version."""
    program = switching()
    return program, Plan(program, GOOD)


def exchanged(rows, index, *, state=None, ideals=None, targets=None):
    """The rows in which some parts of one row are others."""
    old = rows[index]
    row = tuple(was if part is None else part for was, part in zip(old, (state, ideals, targets)))
    return rows[:index] + [row] + rows[index + 1:]


def all_rows(program, plan):
    """Rows for all pairs, also for those without ideal states and those behind them."""
    pairs = [first_pair(program, plan)]
    targets = []
    while len(targets) < len(pairs):
        pair = pairs[len(targets)]
        found = [next_pair(program, plan, pair, act) for act in acts(program, plan, pair[0])]
        pairs += [other for index, other in enumerate(found) if other not in pairs + found[:index]]
        targets.append(tuple(pairs.index(other) for other in found))
    return [(*pair, numbers) for pair, numbers in zip(pairs, targets)]


def renumbered(rows, order):
    """The rows in another order, with the numbers that they get by it."""
    place = {old: new for new, old in enumerate(order)}
    return [(*rows[old][:2], tuple(place[target] for target in rows[old][2])) for old in order]


class TestCertificate(unittest.TestCase):
    def test_rows_of_a_small_program(self):
        program = switching()
        budgets = (0, 0, 0)
        asked = ((0, (0,), ((0, 0, 0),)), (0, (0,), ((1, 0),)))
        idle = ((0, (0,), ((),)),)
        message = (0, 0, 0, 0, 0)
        self.assertEqual(certificate(program, Plan(program, []), 3), [
            ((0, 0, (0,), ((0, 0),), (((0, None, ()),),), (None,), 0, budgets), idle, (1,)),
            ((0, 0, (0,), ((0, 0),), (((0, None, (message,)),),), ((0, 0, 0),), 1, budgets), asked, (2,)),
            ((0, 0, (0,), ((0, 0),), (((0, None, ()),),), (None,), 1, budgets), idle, ()),
        ])

    def test_the_rows_stand_in_the_order_of_the_numbers(self):
        program = switching()
        rows = certificate(program, Plan(program, [("final",)]), ENOUGH)
        # A question and a step; a taking and a step; a step; and so on: new pairs get the next numbers.
        self.assertEqual([targets for _, _, targets in rows], [(1, 2), (3, 4), (4,), (5,), (5,), ()])
        self.assertEqual([state[0] for state, _, _ in rows], [0, 0, 1, 0, 1, 1])
        self.assertEqual([state[6] for state, _, _ in rows], [0, 1, 0, 1, 1, 1])

    def test_none_unless_the_verdict_is_one(self):
        program, plan = good()
        self.assertIsNone(certificate(program, plan, 13))
        self.assertEqual(len(certificate(program, plan, 14)), 14)
        bad = Plan(program, BAD)
        self.assertIsNone(certificate(program, bad, ENOUGH))
        self.assertIsNone(certificate(program, bad, 3))

    def test_the_same_with_a_greater_limit_and_a_new_list_each_time(self):
        program, plan = good()
        rows = certificate(program, plan, 14)
        kept = list(rows)
        rows.clear()
        self.assertEqual(certificate(program, plan, ENOUGH), kept)

    def test_by_chance(self):
        accepted = 0
        for seed in range(0, 400, 2):
            program, plan = case(seed)
            told = judge(program, plan, 150)
            rows = certificate(program, plan, 150)
            if told[0] != "one":
                self.assertIsNone(rows)
                continue
            accepted += 1
            self.assertEqual(len(rows), told[1])
            self.assertEqual(rows[0][:2], first_pair(program, plan))
            self.assertEqual(len({row[:2] for row in rows}), len(rows))
            met = 1
            for state, ideals, targets in rows:
                pairs = [next_pair(program, plan, (state, ideals), act) for act in acts(program, plan, state)]
                self.assertEqual([rows[target][:2] for target in targets], pairs)
                # What is new gets the next number.
                for target in targets:
                    self.assertLessEqual(target, met)
                    met = max(met, target + 1)
            self.assertEqual(met, len(rows))
            self.assertTrue(check(program, plan, rows))
        self.assertGreater(accepted, 50)


class TestAccepted(unittest.TestCase):
    def test_certificates(self):
        for program, steps, undo in (
                (switching(), GOOD, False), (switching(), GOOD, True), (switching(asks=0), BAD, False),
                (growing(asks=2), [("turn", 1), ("raise", 0, 0, 1), ("raise", 0, 1, 1), TURNED], False),
                (same(asks=2), [("turn", 1), ("raise", 0, 0, 1), ("raise", 0, 1, 1), TURNED], True),
                (two_stores(asks=2, clients=2, crashes=1), [], False)):
            plan = Plan(program, steps, undo=undo)
            self.assertIs(check(program, plan, certificate(program, plan, ENOUGH)), True)

    def test_rows_in_another_order(self):
        program, plan = good()
        rows = certificate(program, plan, ENOUGH)
        # The last row stays behind; of two neighbors, neither of which names the other one, each may come first.
        changed = 0
        for index in range(1, len(rows) - 1):
            order = list(range(len(rows)))
            order[index:index + 2] = [index + 1, index]
            mixed = renumbered(rows, order)
            named = all(any(at in row[2] for row in mixed[:at]) for at in range(1, len(mixed)))
            self.assertIs(check(program, plan, mixed), named)
            changed += named
        self.assertGreater(changed, 3)

    def test_a_pair_with_two_rows(self):
        program, plan = good()
        rows = certificate(program, plan, ENOUGH)
        for index in range(1, len(rows)):
            for earlier, (_, _, targets) in enumerate(rows):
                if index in targets:
                    other = tuple(len(rows) if target == index else target for target in targets)
                    doubled = exchanged(rows, earlier, targets=other) + [rows[index]]
                    # The first of the two is named no more, unless another row names it.
                    named = any(index in row[2] for row in doubled[:index])
                    self.assertIs(check(program, plan, doubled), named)


class TestRefused(unittest.TestCase):
    def refuse(self, rows, program=None, plan=None):
        if program is None:
            program, plan = good()
        self.assertIs(check(program, plan, rows), False)

    def test_no_rows(self):
        self.refuse([])

    def test_rows_of_another_plan_or_program(self):
        program, plan = good()
        rows = certificate(program, plan, ENOUGH)
        for other in (Plan(program, GOOD[:1] + GOOD[2:]), Plan(program, GOOD, undo=True), Plan(program, []),
                      Plan(program, BAD)):
            self.refuse(rows, program, other)
        for other in (switching(clients=2), switching(asks=2), switching(losses=1), growing()):
            self.refuse(rows, other, Plan(other, [("turn", 1), TURNED]))

    def test_a_first_row_that_is_not_the_first_pair(self):
        program, plan = good()
        rows = certificate(program, plan, ENOUGH)
        for index in range(1, len(rows)):
            order = [index] + [other for other in range(len(rows)) if other != index]
            self.refuse(renumbered(rows, order))
            # Alone, a last row has no acts that lead on.
            self.refuse([rows[index]])
        self.refuse(exchanged(rows, 0, ideals=()))
        self.refuse(exchanged(rows, 0, ideals=rows[0][1] * 2))

    def test_a_changed_target(self):
        program, plan = good()
        rows = certificate(program, plan, ENOUGH)
        for index, (_, _, targets) in enumerate(rows):
            for at, target in enumerate(targets):
                for other in (*range(-len(rows) - 1, len(rows) + 2), 10 ** 20):
                    if other != target:
                        changed = targets[:at] + (other,) + targets[at + 1:]
                        self.refuse(exchanged(rows, index, targets=changed))

    def test_a_missing_or_added_target(self):
        program, plan = good()
        rows = certificate(program, plan, ENOUGH)
        for index, (_, _, targets) in enumerate(rows):
            for at in range(len(targets)):
                self.refuse(exchanged(rows, index, targets=targets[:at] + targets[at + 1:]))
            for other in range(len(rows)):
                self.refuse(exchanged(rows, index, targets=targets + (other,)))
                self.refuse(exchanged(rows, index, targets=(other,) + targets))

    def test_exchanged_targets(self):
        program, plan = good()
        rows = certificate(program, plan, ENOUGH)
        for index, (_, _, targets) in enumerate(rows):
            if len(targets) > 1:
                self.refuse(exchanged(rows, index, targets=targets[::-1]))

    def test_a_missing_row(self):
        program, plan = good()
        rows = certificate(program, plan, ENOUGH)
        for index in range(len(rows)):
            self.refuse(rows[:index] + rows[index + 1:])

    def test_a_row_that_no_earlier_row_names(self):
        program, plan = good()
        rows = certificate(program, plan, ENOUGH)
        for row in rows:
            self.refuse(rows + [row])
        # Rows that only each other name, or only themselves.
        last = len(rows)
        self.refuse(rows + [(*rows[-2][:2], (last + 1,)), (*rows[-1][:2], ())])
        self.refuse(rows + [((), ((),), (last,))])

    def test_a_row_that_only_a_later_one_names(self):
        program = switching()
        plan = Plan(program, [("final",)])
        rows = certificate(program, plan, ENOUGH)
        self.assertEqual([targets for _, _, targets in rows], [(1, 2), (3, 4), (4,), (5,), (5,), ()])
        self.assertTrue(check(program, plan, renumbered(rows, [0, 2, 1, 3, 4, 5])))
        # Only row 1 names row 3.
        self.refuse(renumbered(rows, [0, 3, 1, 2, 4, 5]), program, plan)

    def test_a_row_without_ideal_states(self):
        program = switching()
        plan = Plan(program, BAD)
        rows = all_rows(program, plan)
        self.assertIn((), [ideals for _, ideals, _ in rows])
        self.refuse(rows, program, plan)
        # The same rows are accepted if each of them has an ideal state.
        plan = Plan(program, GOOD)
        self.assertEqual(all_rows(program, plan), certificate(program, plan, ENOUGH))

    def test_rows_without_ideal_states_by_chance(self):
        refused = 0
        for seed in range(0, 600, 2):
            program, plan = case(seed)
            if judge(program, plan, 40)[0] != "not one":
                continue
            refused += 1
            rows = all_rows(program, plan) if refused < 5 else [(*first_pair(program, plan), ())]
            self.refuse(rows, program, plan)
        self.assertGreater(refused, 5)

    def test_strange_states(self):
        program, plan = good()
        rows = certificate(program, plan, ENOUGH)
        for index, (state, ideals, targets) in enumerate(rows):
            for strange in STRANGE:
                self.refuse(exchanged(rows, index, state=strange))
                self.refuse(exchanged(rows, index, state=strange, ideals=(strange,), targets=(0,) * 5))
                self.refuse(rows + [(strange, ideals, targets)])
            for part in range(len(state)):
                others = [other for other in (None, "a", (), 5, -1, (None,), (("a",),)) if other != state[part]]
                for other in others:
                    self.refuse(exchanged(rows, index, state=state[:part] + (other,) + state[part + 1:]))
        for strange in STRANGE:
            self.refuse([(strange, ((0, (0,), ((),)),), ())])
            self.refuse([(start(program), rows[0][1], (1, 2)), (strange, strange, strange[:0])])

    def test_strange_ideal_states(self):
        program, plan = good()
        rows = certificate(program, plan, ENOUGH)
        for index, (_, ideals, _) in enumerate(rows):
            for strange in STRANGE:
                for other in ((strange,), ideals + (strange,), (strange,) + ideals, strange):
                    self.refuse(exchanged(rows, index, ideals=other))
            for at, (level, records, entries) in enumerate(ideals):
                for other in ((level + 1, records, entries), (level, records, ()), (None, records, entries),
                              (level, None, entries), (level, records, "a"), (level, (1,), entries)):
                    self.refuse(exchanged(rows, index, ideals=ideals[:at] + (other,) + ideals[at + 1:]))

    def test_missing_added_or_exchanged_ideal_states(self):
        program, plan = good()
        rows = certificate(program, plan, ENOUGH)
        for index, (_, ideals, _) in enumerate(rows):
            self.refuse(exchanged(rows, index, ideals=()))
            self.refuse(exchanged(rows, index, ideals=ideals + ideals[-1:]))
            if len(ideals) > 1:
                self.refuse(exchanged(rows, index, ideals=ideals[::-1]))
                self.refuse(exchanged(rows, index, ideals=ideals[1:]))
                self.refuse(exchanged(rows, index, ideals=ideals[:-1]))


if __name__ == "__main__":
    unittest.main()
