"""Point 5: the errors, their classes and their values."""

import unittest

from rollwarden.errors import BadPlan, BadProgram, NotAllowed, RollError

SUBCLASSES = (BadProgram, BadPlan, NotAllowed)
CLASSES = (RollError, *SUBCLASSES)
VALUES = ("services", "", 0, 7, ("ask", 0, 1, 2, 0), (), None)
# Python refuses to write out a number with so many digits.
LARGE = 10 ** 5000
LARGE_VALUES = (LARGE, -LARGE, (LARGE,), ("crash", LARGE, 0), ("take", 0, -LARGE, LARGE), [LARGE], {LARGE: -LARGE})


class TestValues(unittest.TestCase):
    def test_the_attribute_is_the_value_that_was_passed(self):
        for kind in CLASSES:
            for value in VALUES:
                with self.subTest(kind=kind, value=value):
                    self.assertIs(kind(value).value, value)

    def test_the_value_may_be_passed_by_its_name(self):
        for kind in CLASSES:
            with self.subTest(kind=kind):
                self.assertEqual(kind(value="up").value, "up")

    def test_there_is_exactly_one_parameter(self):
        for kind in CLASSES:
            with self.subTest(kind=kind):
                with self.assertRaises(TypeError):
                    kind()
                with self.assertRaises(TypeError):
                    kind(1, 2)

    def test_a_raised_error_keeps_its_value(self):
        for kind in CLASSES:
            for caught in (kind, RollError, ValueError):
                with self.subTest(kind=kind, caught=caught):
                    with self.assertRaises(caught) as held:
                        raise kind(("step",))
                    self.assertEqual(held.exception.value, ("step",))

    def test_an_error_does_not_modify_its_value(self):
        value = [1, [2, 3]]
        for kind in CLASSES:
            kind(value)
        self.assertEqual(value, [1, [2, 3]])


class TestValuesOfAnySize(unittest.TestCase):
    def test_an_error_keeps_a_large_value(self):
        for kind in CLASSES:
            for index, value in enumerate(LARGE_VALUES):
                with self.subTest(kind=kind, index=index):
                    self.assertIs(kind(value).value, value)

    def test_a_raised_error_keeps_a_large_value(self):
        for kind in CLASSES:
            with self.assertRaises(kind) as held:
                raise kind(("step", LARGE))
            self.assertTrue(held.exception.value == ("step", LARGE))

    def test_an_error_keeps_a_value_of_great_depth(self):
        value = ()
        for _ in range(100000):
            value = (value,)
        for kind in CLASSES:
            self.assertIs(kind(value).value, value)

    def test_each_error_can_be_written_out(self):
        for kind in CLASSES:
            for index, value in enumerate((*VALUES, *LARGE_VALUES)):
                with self.subTest(kind=kind, index=index):
                    self.assertIsInstance(str(kind(value)), str)
                    self.assertIsInstance(repr(kind(value)), str)

    def test_what_can_be_written_out_stands_in_the_message(self):
        for kind in CLASSES:
            with self.subTest(kind=kind):
                self.assertIn("services", str(kind("services")))
                self.assertIn("-7", str(kind(-7)))
                message = str(kind(("crash", LARGE, 12)))
                self.assertIn("crash", message)
                self.assertIn("12", message)


class TestClasses(unittest.TestCase):
    def test_the_base_is_a_value_error(self):
        self.assertEqual(RollError.__bases__, (ValueError,))

    def test_the_others_are_direct_subclasses_of_the_base(self):
        for kind in SUBCLASSES:
            with self.subTest(kind=kind):
                self.assertEqual(kind.__bases__, (RollError,))

    def test_none_of_the_three_is_a_subclass_of_another_one(self):
        for kind in SUBCLASSES:
            for other in SUBCLASSES:
                with self.subTest(kind=kind, other=other):
                    self.assertEqual(issubclass(kind, other), kind is other)

    def test_the_names(self):
        names = [kind.__name__ for kind in CLASSES]
        self.assertEqual(names, ["RollError", "BadProgram", "BadPlan", "NotAllowed"])


if __name__ == "__main__":
    unittest.main()
