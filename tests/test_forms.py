"""Points 11 and 12: conversions between the versions of a service."""

import copy
import unittest

from rollwarden.forms import convert, lost_down, lost_up
from rollwarden.program import Program


def version(sizes, up=(), down=()):
    return (sizes, up, down, (None,))


def program_of(*services):
    """A program with these services."""
    return Program(
        questions=((0, 1, 1),),
        services=services,
        releases=((tuple(0 for _ in services), ()),),
    )


# Versions with 2, 3 and 4 records. No table is the way back of its neighbor.
LADDER = (2, (
    version((2,)),
    version((3,), (1, 2), (0, 0, 1)),
    version((2, 2), (3, 3, 0), (2, 1, 1, 0)),
))
# Nothing is lost in either direction.
SWAPPED = (1, (version((2,)), version((1, 2), (1, 0), (1, 0))))
SINGLE = (1, (version((4,)),))
PROGRAM = program_of(LADDER, SWAPPED, SINGLE)


def pair_of(low_sizes, high_sizes, up, down):
    """A program with one service of two versions."""
    return program_of((1, (version(low_sizes), version(high_sizes, up, down))))


def converted(service, first, last, count):
    return [convert(PROGRAM, service, first, last, number) for number in range(count)]


class TestConvert(unittest.TestCase):
    def test_the_same_version_changes_nothing(self):
        for same, count in ((0, 2), (1, 3), (2, 4)):
            self.assertEqual(converted(0, same, same, count), list(range(count)))
        self.assertEqual(converted(2, 0, 0, 4), [0, 1, 2, 3])

    def test_one_step_up(self):
        self.assertEqual(converted(0, 0, 1, 2), [1, 2])
        self.assertEqual(converted(0, 1, 2, 3), [3, 3, 0])

    def test_two_steps_up(self):
        self.assertEqual(converted(0, 0, 2, 2), [3, 0])

    def test_one_step_down(self):
        self.assertEqual(converted(0, 1, 0, 3), [0, 0, 1])
        self.assertEqual(converted(0, 2, 1, 4), [2, 1, 1, 0])

    def test_two_steps_down(self):
        self.assertEqual(converted(0, 2, 0, 4), [1, 0, 0, 0])

    def test_there_and_back_may_change_a_record(self):
        there = convert(PROGRAM, 0, 1, 2, 1)
        self.assertEqual(convert(PROGRAM, 0, 2, 1, there), 0)

    def test_the_tables_are_those_of_the_service(self):
        self.assertEqual(converted(1, 0, 1, 2), [1, 0])
        self.assertEqual(converted(1, 1, 0, 2), [1, 0])


class TestLostUp(unittest.TestCase):
    def test_none_is_lost(self):
        self.assertIsNone(lost_up(PROGRAM, 0, 0))
        self.assertIsNone(lost_up(PROGRAM, 1, 0))
        self.assertIsNone(lost_up(pair_of((1,), (1,), (0,), (0,)), 0, 0))

    def test_one_is_lost(self):
        self.assertEqual(lost_up(PROGRAM, 0, 1), 1)

    def test_the_least_one_of_several(self):
        self.assertEqual(lost_up(pair_of((4,), (1,), (0, 0, 0, 0), (0,)), 0, 0), 1)

    def test_the_first_record(self):
        self.assertEqual(lost_up(pair_of((4,), (1,), (0, 0, 0, 0), (2,)), 0, 0), 0)

    def test_the_last_record(self):
        self.assertEqual(lost_up(pair_of((2, 2), (3,), (0, 1, 2, 2), (0, 1, 2)), 0, 0), 3)

    def test_only_the_way_up_counts(self):
        program = pair_of((2,), (3,), (0, 1), (0, 1, 1))
        self.assertIsNone(lost_up(program, 0, 0))
        self.assertEqual(lost_down(program, 0, 0), 2)


class TestLostDown(unittest.TestCase):
    def test_none_is_lost(self):
        self.assertIsNone(lost_down(PROGRAM, 1, 0))
        self.assertIsNone(lost_down(pair_of((1,), (1,), (0,), (0,)), 0, 0))

    def test_one_is_lost(self):
        self.assertEqual(lost_down(pair_of((2,), (3,), (2, 1), (1, 1, 0)), 0, 0), 0)

    def test_the_least_one_of_several(self):
        self.assertEqual(lost_down(PROGRAM, 0, 1), 1)

    def test_the_first_record(self):
        self.assertEqual(lost_down(PROGRAM, 0, 0), 0)

    def test_the_last_record(self):
        self.assertEqual(lost_down(pair_of((3,), (2, 2), (0, 1, 2), (0, 1, 2, 2)), 0, 0), 3)

    def test_only_the_way_down_counts(self):
        program = pair_of((3,), (2,), (0, 1, 1), (0, 1))
        self.assertIsNone(lost_down(program, 0, 0))
        self.assertEqual(lost_up(program, 0, 0), 2)


class TestArguments(unittest.TestCase):
    def use_all(self, program):
        for service, (_, versions) in enumerate(program.services):
            for low in range(len(versions) - 1):
                lost_up(program, service, low)
                lost_down(program, service, low)
                convert(program, service, low, low + 1, 0)
                convert(program, service, low + 1, low, 0)

    def test_the_program_stays_as_it_was(self):
        before = copy.deepcopy(vars(PROGRAM))
        self.use_all(PROGRAM)
        self.assertEqual(vars(PROGRAM), before)

    def test_numbers_are_integers(self):
        self.assertIs(type(convert(PROGRAM, 0, 0, 2, 1)), int)
        self.assertIs(type(lost_up(PROGRAM, 0, 1)), int)
        self.assertIs(type(lost_down(PROGRAM, 0, 0)), int)


if __name__ == "__main__":
    unittest.main()
