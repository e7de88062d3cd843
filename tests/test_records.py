"""Point 10: records and their numbers."""

import inspect
import itertools
import unittest

from rollwarden.records import all_records, number_of, record_at, record_count

# All sizes that the document allows: one to three fields, each of size 1 to 4.
ALL_SIZES = [sizes for fields in (1, 2, 3) for sizes in itertools.product((1, 2, 3, 4), repeat=fields)]


class TestRecordCount(unittest.TestCase):
    def test_one_field(self):
        self.assertEqual([record_count((size,)) for size in (1, 2, 3, 4)], [1, 2, 3, 4])

    def test_several_fields(self):
        self.assertEqual(record_count((2, 3)), 6)
        self.assertEqual(record_count((4, 1, 2)), 8)

    def test_the_least_and_the_greatest_sizes(self):
        self.assertEqual(record_count((1, 1, 1)), 1)
        self.assertEqual(record_count((4, 4, 4)), 64)

    def test_sizes_beyond_the_limits_are_no_error(self):
        self.assertEqual(record_count((5, 2)), 10)
        self.assertEqual(record_count((2, 2, 2, 3)), 24)


class TestNumberOf(unittest.TestCase):
    def test_the_example_of_the_document(self):
        self.assertEqual(number_of((2, 3), (1, 2)), 5)

    def test_one_field(self):
        self.assertEqual([number_of((4,), (value,)) for value in range(4)], [0, 1, 2, 3])
        self.assertEqual(number_of((1,), (0,)), 0)

    def test_the_first_field_counts_most(self):
        self.assertEqual(number_of((2, 3), (1, 0)), 3)
        self.assertEqual(number_of((2, 3), (0, 1)), 1)
        self.assertEqual(number_of((2, 3, 4), (1, 0, 0)), 12)
        self.assertEqual(number_of((2, 3, 4), (0, 1, 0)), 4)
        self.assertEqual(number_of((2, 3, 4), (0, 0, 1)), 1)

    def test_the_first_and_the_last_record(self):
        for sizes in ALL_SIZES:
            with self.subTest(sizes=sizes):
                last = tuple(size - 1 for size in sizes)
                self.assertEqual(number_of(sizes, (0,) * len(sizes)), 0)
                self.assertEqual(number_of(sizes, last), record_count(sizes) - 1)

    def test_sizes_beyond_the_limits_are_no_error(self):
        self.assertEqual(number_of((5, 7), (4, 6)), 34)
        self.assertEqual(number_of((2, 2, 2, 2), (1, 0, 1, 1)), 11)


class TestRecordAt(unittest.TestCase):
    def test_the_example_of_the_document(self):
        self.assertEqual(record_at((2, 3), 5), (1, 2))

    def test_one_field(self):
        self.assertEqual([record_at((4,), number) for number in range(4)], [(0,), (1,), (2,), (3,)])
        self.assertEqual(record_at((1,), 0), (0,))

    def test_three_fields(self):
        self.assertEqual(record_at((2, 3, 4), 0), (0, 0, 0))
        self.assertEqual(record_at((2, 3, 4), 1), (0, 0, 1))
        self.assertEqual(record_at((2, 3, 4), 6), (0, 1, 2))
        self.assertEqual(record_at((2, 3, 4), 23), (1, 2, 3))
        self.assertEqual(record_at((4, 1, 2), 5), (2, 0, 1))

    def test_a_record_is_a_tuple_of_integers(self):
        for sizes in ALL_SIZES:
            record = record_at(sizes, record_count(sizes) - 1)
            self.assertIs(type(record), tuple)
            self.assertEqual([type(value) for value in record], [int] * len(sizes))

    def test_it_is_the_way_back_from_the_number(self):
        for sizes in ALL_SIZES:
            for number in range(record_count(sizes)):
                self.assertEqual(number_of(sizes, record_at(sizes, number)), number)

    def test_sizes_beyond_the_limits_are_no_error(self):
        self.assertEqual(record_at((5, 7), 34), (4, 6))
        self.assertEqual(record_at((2, 2, 2, 2), 11), (1, 0, 1, 1))


class TestAllRecords(unittest.TestCase):
    def test_it_is_a_generator(self):
        self.assertTrue(inspect.isgeneratorfunction(all_records))
        self.assertTrue(inspect.isgenerator(all_records((2, 3))))

    def test_one_field(self):
        self.assertEqual(list(all_records((1,))), [(0,)])
        self.assertEqual(list(all_records((4,))), [(0,), (1,), (2,), (3,)])

    def test_two_fields(self):
        self.assertEqual(list(all_records((2, 3))), [(0, 0), (0, 1), (0, 2), (1, 0), (1, 1), (1, 2)])

    def test_all_sizes_in_the_order_of_the_numbers(self):
        for sizes in ALL_SIZES:
            with self.subTest(sizes=sizes):
                expected = list(itertools.product(*[range(size) for size in sizes]))
                records = list(all_records(sizes))
                self.assertEqual(records, expected)
                self.assertEqual([number_of(sizes, record) for record in records], list(range(len(records))))

    def test_each_call_begins_anew(self):
        begun = all_records((2, 2))
        next(begun)
        self.assertEqual(list(all_records((2, 2))), [(0, 0), (0, 1), (1, 0), (1, 1)])
        self.assertEqual(list(begun), [(0, 1), (1, 0), (1, 1)])


class TestArguments(unittest.TestCase):
    # Lists stand in for tuples here, because a change of a tuple could not be seen.
    def test_they_stay_as_they_were(self):
        sizes = [2, 3, 4]
        record = [1, 2, 3]
        self.assertEqual(record_count(sizes), 24)
        self.assertEqual(number_of(sizes, record), 23)
        self.assertEqual(record_at(sizes, 23), (1, 2, 3))
        self.assertEqual(len(list(all_records(sizes))), 24)
        self.assertEqual(sizes, [2, 3, 4])
        self.assertEqual(record, [1, 2, 3])

    def test_numbers_are_integers(self):
        self.assertIs(type(record_count((1,))), int)
        self.assertIs(type(number_of((1,), (0,))), int)
        self.assertIs(type(number_of((2, 3), (1, 2))), int)


if __name__ == "__main__":
    unittest.main()
