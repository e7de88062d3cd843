"""Points 5, 10, 11 and 20 to 26: programs, and the first part of them that is not right."""

import copy
import inspect
import itertools
import unittest

from rollwarden.errors import BadProgram, RollError
from rollwarden.program import Program
from samples import ARG, GOT, answer, ask

ZERO = ("value", 0)
WORST = (True, False, None)
ORDER = ("switches", "questions", "services", "releases", "clients", "asks", "losses", "doubles", "crashes")


def spec():
    """The arguments of a right program, with lists in place of tuples, so that each part can be changed."""
    front = [[[ARG, "==", ZERO], ["set", 0, ["switch", 1]]], [None, ["ask", 1, ARG]], [None, ["answer", GOT]]]
    back = [[None, ["add", 0, 3]], [None, ["answer", ["field", 0]]]]
    return {
        "questions": [[0, 2, 3], [1, 4, 1]],
        "services": [
            [2, [
                [[2, 2], [], [], [front, None]],
                [[3], [0, 1, 2, 0], [3, 2, 0], [None, None]],
            ]],
            [1, [
                [[4], [], [], [None, back]],
                [[1, 2, 1], [0, 1, 1, 0], [3, 0], [None, back]],
                [[2], [1, 0], [0, 1], [None, None]],
            ]],
        ],
        "releases": [[[0, 0], [0, 1]], [[1, 2], [1, 0]]],
        "switches": 2,
        "clients": 2,
        "asks": 3,
        "losses": 2,
        "doubles": 1,
        "crashes": 0,
    }


def frozen(value):
    if isinstance(value, list):
        return tuple(frozen(item) for item in value)
    return value


def made(parts):
    return Program(**{name: frozen(value) for name, value in parts.items()})


def told(parts):
    """The part that is told, or None if the program is right."""
    try:
        made(parts)
    except BadProgram as error:
        return error.value
    return None


def changed(*changes):
    """The arguments with changes (path, value); the path leads through names and indexes to what is replaced."""
    parts = spec()
    for path, value in changes:
        place = parts
        for step in path[:-1]:
            place = place[step]
        place[path[-1]] = value
    return parts


def told_of(path, value):
    return told(changed((path, value)))


def told_of_handler(handler, service=0):
    return told_of(("services", service, 1, 0, 3, service), handler)


def told_of_line(test, deed):
    return told_of_handler(((test, deed),))


class TestRight(unittest.TestCase):
    def test_the_attributes_are_what_was_passed(self):
        parts = {name: frozen(value) for name, value in spec().items()}
        self.assertEqual(vars(Program(**parts)), parts)

    def test_what_is_left_out(self):
        parts = spec()
        for name in ("switches", "clients", "asks", "losses", "doubles", "crashes"):
            del parts[name]
        parts["releases"] = [[[0, 0], []]]
        parts["services"][0][1][0][3][0] = None
        program = made(parts)
        numbers = (program.switches, program.clients, program.asks, program.losses, program.doubles, program.crashes)
        self.assertEqual(numbers, (0, 1, 1, 0, 0, 0))

    def test_all_arguments_are_passed_by_name(self):
        parameters = inspect.signature(Program).parameters.values()
        self.assertEqual({parameter.kind for parameter in parameters}, {inspect.Parameter.KEYWORD_ONLY})
        self.assertEqual([parameter.name for parameter in parameters], [
            "questions", "services", "releases", "switches", "clients", "asks", "losses", "doubles", "crashes"])

    def test_it_does_not_change_with_a_list_that_was_passed(self):
        parts = {name: frozen(value) for name, value in spec().items()}
        lists = {name: list(parts[name]) for name in ("questions", "services", "releases")}
        program = Program(**{**parts, **lists})
        before = copy.deepcopy(vars(program))
        for items in lists.values():
            items.pop()
        self.assertEqual(vars(program), before)

    def test_a_refused_argument_is_not_modified(self):
        services = [(3, ())]
        with self.assertRaises(BadProgram):
            Program(questions=[(0, 1, 1)], services=services, releases=[((0,), ())])
        self.assertEqual(services, [(3, ())])

    def test_the_least_program(self):
        program = Program(questions=((0, 1, 1),), services=((1, (((1,), (), (), (None,)),)),), releases=(((0,), ()),),
                          asks=0)
        self.assertEqual((program.asks, program.switches, program.clients), (0, 0, 1))

    def test_the_greatest_numbers(self):
        entries = (((None, ("answer", ZERO)),) * 8,) * 3
        low = ((4, 4, 4), (), (), entries)
        high = ((4, 4, 4), (63,) * 64, (63,) * 64, entries)
        small = (2, (((1,), (), (), (None,) * 3),))
        parts = {
            "questions": ((2, 4, 4),) * 3,
            "services": (small, small, (2, (low, high, high))),
            "releases": (((0, 0, 2), (1, 1)),) * 4,
            "switches": 2, "clients": 2, "asks": 3, "losses": 2, "doubles": 2, "crashes": 2,
        }
        self.assertEqual(vars(Program(**parts)), parts)


class TestError(unittest.TestCase):
    def test_the_error(self):
        with self.assertRaises(RollError) as held:
            made(changed((("clients",), 3)))
        self.assertIs(type(held.exception), BadProgram)
        self.assertIs(type(held.exception.value), str)


class TestNumbers(unittest.TestCase):
    def check(self, name, low, high):
        for value in range(low, high + 1):
            if name != "switches" or value == 2:
                self.assertIsNone(told_of((name,), value))
        for value in (low - 1, high + 1, 100, *WORST):
            with self.subTest(name=name, value=value):
                self.assertEqual(told_of((name,), value), name)

    def test_the_numbers_of_point_20(self):
        self.check("switches", 0, 2)

    def test_the_numbers_of_the_clients_and_failures(self):
        self.check("clients", 1, 2)
        self.check("asks", 0, 3)
        for name in ("losses", "doubles", "crashes"):
            self.check(name, 0, 2)

    def test_fewer_switches_are_right_in_themselves(self):
        for switches in (0, 1):
            parts = changed((("switches",), switches), (("services", 0, 1, 0, 3, 0), None))
            self.assertEqual(told(parts), "releases")
            parts["releases"] = [[[0, 0], [1] * switches]]
            self.assertIsNone(told(parts))


class TestQuestions(unittest.TestCase):
    def test_their_number(self):
        for count in (0, 4, 5):
            self.assertEqual(told_of(("questions",), [[0, 1, 1]] * count), "questions")
        # With three, the versions have not as many entries.
        self.assertEqual(told_of(("questions",), [[0, 1, 1]] * 3), "handlers")

    def test_the_service(self):
        for value in (-1, 2, 3, *WORST):
            with self.subTest(value=value):
                self.assertEqual(told_of(("questions", 1, 0), value), "questions")

    def test_the_arguments_and_the_answers(self):
        for index in (1, 2):
            for value in (1, 2, 3, 4):
                self.assertIsNone(told_of(("questions", 0, index), value))
            for value in (-1, 0, 5, *WORST):
                for question in (0, 1):
                    with self.subTest(index=index, value=value, question=question):
                        self.assertEqual(told_of(("questions", question, index), value), "questions")

    def test_the_length(self):
        for value in ([0, 1], [0, 1, 1, 1], []):
            self.assertEqual(told_of(("questions", 0), value), "questions")

    def test_a_service_exists_if_so_many_were_passed(self):
        service = [1, [[[2], [], [], [None, None]]]]
        for count in (4, 5):
            parts = changed((("services",), [service] * count), (("questions", 0, 0), 3))
            self.assertEqual(told(parts), "services")
        parts = changed((("services",), [service] * 4), (("questions", 0, 0), 4))
        self.assertEqual(told(parts), "questions")
        self.assertEqual(told_of(("services",), []), "questions")


class TestServices(unittest.TestCase):
    def test_their_number(self):
        more = [[1, [[[2], [], [], [None, None]]]]]
        for count in (2, 3):
            self.assertEqual(told_of(("services",), spec()["services"] + more * count), "services")
        parts = changed((("services",), spec()["services"] + more), (("releases",), [[[0, 0, 0], [0, 0]]]))
        self.assertIsNone(told(parts))

    def test_the_instances(self):
        for service in (0, 1):
            for value in (1, 2):
                self.assertIsNone(told_of(("services", service, 0), value))
            for value in (-1, 0, 3, *WORST):
                with self.subTest(service=service, value=value):
                    self.assertEqual(told_of(("services", service, 0), value), "services")

    def test_the_length(self):
        versions = spec()["services"][1][1]
        for value in ([1], [1, versions, 1], []):
            self.assertEqual(told_of(("services", 1), value), "services")

    def test_the_number_of_versions(self):
        low, middle, high = spec()["services"][1][1]
        self.assertEqual(told_of(("services", 1, 1), []), "versions")
        same = [[2], [0, 1], [0, 1], [None, None]]
        self.assertEqual(told_of(("services", 1, 1), [low, middle, high, same]), "versions")
        self.assertIsNone(told(changed((("services", 1, 1), [low]), (("releases",), [[[0, 0], [0, 0]]]))))

    def test_the_length_of_a_version(self):
        low = spec()["services"][1][1][0]
        for value in (low[:3], low + [None]):
            self.assertEqual(told_of(("services", 1, 1, 0), value), "versions")


class TestSizes(unittest.TestCase):
    def test_the_number_of_fields(self):
        for sizes in ([], [1, 1, 1, 1], [1, 1, 1, 1, 1]):
            for service, version in ((0, 0), (1, 2)):
                self.assertEqual(told_of(("services", service, 1, version, 0), sizes), "sizes")

    def test_the_sizes(self):
        for index in (0, 1):
            for value in (-1, 0, 5, *WORST):
                for version in (0, 1):
                    with self.subTest(value=value, index=index, version=version):
                        sizes = [1, 1]
                        sizes[index] = value
                        self.assertEqual(told_of(("services", 0, 1, version, 0), sizes), "sizes")


class TestTables(unittest.TestCase):
    def check(self, index, name, path, right, greatest):
        for table in ([], right[:-1], right + [0]):
            self.assertEqual(told_of((*path, index), table), name)
        for at in range(len(right)):
            for value in (0, greatest):
                self.assertIsNone(told_of((*path, index, at), value))
            for value in (-1, greatest + 1, *WORST):
                with self.subTest(name=name, path=path, at=at, value=value):
                    self.assertEqual(told_of((*path, index, at), value), name)

    def test_up(self):
        self.check(1, "up", ("services", 0, 1, 1), [0, 0, 0, 0], 2)
        self.check(1, "up", ("services", 1, 1, 1), [0, 0, 0, 0], 1)
        self.check(1, "up", ("services", 1, 1, 2), [0, 0], 1)

    def test_down(self):
        self.check(2, "down", ("services", 0, 1, 1), [0, 0, 0], 3)
        self.check(2, "down", ("services", 1, 1, 1), [0, 0], 3)
        self.check(2, "down", ("services", 1, 1, 2), [0, 0], 1)

    def test_both_tables_of_version_0_are_empty(self):
        for service in (0, 1):
            for table in ([0], [0, 1, 2, 3]):
                self.assertEqual(told_of(("services", service, 1, 0, 1), table), "up")
                self.assertEqual(told_of(("services", service, 1, 0, 2), table), "down")


class TestHandlers(unittest.TestCase):
    def test_the_number_of_entries(self):
        for entries in ([], [None], [None, None, None]):
            for service, version in ((0, 0), (0, 1), (1, 2)):
                self.assertEqual(told_of(("services", service, 1, version, 3), entries), "handlers")

    def test_entries_for_questions_of_other_services_are_none(self):
        handler = [[None, ["answer", ARG]]]
        self.assertEqual(told_of(("services", 0, 1, 0, 3, 1), handler), "handlers")
        self.assertEqual(told_of(("services", 1, 1, 2, 3, 0), handler), "handlers")
        self.assertIsNone(told_of(("services", 1, 1, 2, 3, 1), handler))

    def test_the_number_of_lines(self):
        line = (None, ("add", 0, 1))
        self.assertIsNone(told_of_handler((line,)))
        self.assertIsNone(told_of_handler((line,) * 8))
        self.assertEqual(told_of_handler(()), "handlers")
        self.assertEqual(told_of_handler((line,) * 9), "handlers")

    def test_each_line_counts(self):
        right = (None, ("add", 0, 1))
        for at in range(8):
            lines = [right] * 8
            lines[at] = (None, ("add", 0, 4))
            self.assertEqual(told_of_handler(tuple(lines)), "handlers")

    def test_the_length_of_a_line(self):
        for line in ((None,), (None, ("add", 0, 1), None), ()):
            self.assertEqual(told_of_handler((line,)), "handlers")

    def test_no_number_is_a_handler(self):
        for handler in (True, False, 0):
            self.assertEqual(told_of_handler(handler), "handlers")

    def test_the_signs(self):
        for sign in ("==", "!=", "<"):
            self.assertIsNone(told_of_line((ARG, sign, GOT), ("add", 0, 1)))
        for sign in (">", "<=", ">=", "=", "", "is", None, True, 0):
            self.assertEqual(told_of_line((ARG, sign, GOT), ("add", 0, 1)), "handlers")

    def test_the_length_of_a_test(self):
        for test in ((), (ARG,), (ARG, "=="), (ARG, "==", GOT, GOT)):
            self.assertEqual(told_of_line(test, ("add", 0, 1)), "handlers")

    def test_true_and_false_are_no_tests(self):
        for test in (True, False, 0):
            self.assertEqual(told_of_line(test, ("add", 0, 1)), "handlers")


class TestExpressions(unittest.TestCase):
    RIGHT = (ARG, GOT, *[("value", n) for n in range(4)], ("field", 0), ("field", 1), ("switch", 0), ("switch", 1))
    WRONG = (
        (), ("arg", 0), ("got", 0), ("value",), ("value", 0, 0), ("field",), ("field", 0, 0), ("switch",),
        ("switch", 0, 0), ("args",), ("answer", 0), ("values", 0), ("",), ("", 0), ("set", 0), ("Arg",),
        *[("value", n) for n in (-1, 4, *WORST)],
        *[("field", f) for f in (-1, 2, *WORST)],
        *[("switch", s) for s in (-1, 2, *WORST)],
    )

    def lines(self, expr):
        """Lines with this expression in each place where one may stand."""
        return (
            ((expr, "==", ZERO), ("add", 0, 1)),
            ((ZERO, "==", expr), ("add", 0, 1)),
            (None, ("set", 0, expr)),
            (None, ("ask", 1, expr)),
            (None, ("answer", expr)),
        )

    def test_right_ones(self):
        for expr in self.RIGHT:
            for line in self.lines(expr):
                with self.subTest(line=line):
                    self.assertIsNone(told_of_handler((line,)))

    def test_wrong_ones(self):
        for expr in self.WRONG:
            for line in self.lines(expr):
                with self.subTest(line=line):
                    self.assertEqual(told_of_handler((line,)), "handlers")

    def test_the_fields_are_those_of_the_version(self):
        for service, version, fields in ((0, 0, 2), (0, 1, 1), (1, 1, 3)):
            for field in range(4):
                path = ("services", service, 1, version, 3, service)
                expected = None if field < fields else "handlers"
                self.assertEqual(told_of(path, ((None, ("answer", ("field", field))),)), expected)

    def test_without_switches_none_can_be_named(self):
        parts = changed((("switches",), 0), (("releases",), [[[0, 0], []]]))
        self.assertEqual(told(parts), "handlers")
        parts["services"][0][1][0][3][0] = None
        self.assertIsNone(told(parts))


class TestDeeds(unittest.TestCase):
    def check(self, right, wrong):
        for deed in right:
            with self.subTest(deed=deed):
                self.assertIsNone(told_of_line(None, deed))
        for deed in wrong:
            with self.subTest(deed=deed):
                self.assertEqual(told_of_line(None, deed), "handlers")

    def test_set(self):
        self.check(
            [("set", 0, ARG), ("set", 1, ARG)],
            [("set",), ("set", 0), ("set", 0, ARG, ARG), *[("set", f, ARG) for f in (-1, 2, *WORST)]])

    def test_add(self):
        self.check(
            [("add", f, n) for f in (0, 1) for n in (0, 1, 2, 3)],
            [("add",), ("add", 0), ("add", 0, 1, 1), *[("add", f, 1) for f in (-1, 2, *WORST)],
             *[("add", 0, n) for n in (-1, 4, *WORST)], ("add", 0, ARG)])

    def test_ask(self):
        self.check(
            [("ask", 1, ARG)],
            [("ask",), ("ask", 1), ("ask", 1, ARG, ARG), *[("ask", q, ARG) for q in (-1, 2, *WORST)]])

    def test_answer(self):
        self.check([("answer", ARG)], [("answer",), ("answer", ARG, ARG), ("answer", 0)])

    def test_unknown_words(self):
        self.check([], [(), ("",), ("", 0), ("", 0, ARG), ("go", 0, ARG), ("go", 1, ARG), ("go", 1, 1), ("answers", ARG),
                        ("Set", 0, ARG), (0, 0, ARG), None, True])

    def test_the_service_of_a_question_that_is_asked_is_a_later_one(self):
        # Question 0 is one of service 1, and question 1 is one of service 0.
        questions = [[1, 1, 1], [0, 1, 1], [1, 1, 1]]
        for service, asked, expected in ((0, 0, None), (0, 1, "handlers"), (0, 2, None), (1, 0, "handlers"),
                                         (1, 1, "handlers"), (1, 2, "handlers")):
            with self.subTest(service=service, asked=asked):
                entries = [None, None, None]
                entries[1 - service] = [[None, ["ask", asked, ARG]]]
                versions = [[[[2], [], [], [None, None, None]]] for _ in (0, 1)]
                versions[service] = [[[2], [], [], entries]]
                parts = changed(
                    (("questions",), questions),
                    (("services",), [[1, versions[0]], [1, versions[1]]]),
                    (("releases",), [[[0, 0], [0, 0]]]))
                self.assertEqual(told(parts), expected)

    def test_at_most_two_questions_in_one_handler(self):
        once = ask(1, ARG)
        self.assertIsNone(told_of_handler((once, once)))
        self.assertIsNone(told_of_handler((once, answer(ARG), once)))
        self.assertEqual(told_of_handler((once, once, once)), "handlers")
        self.assertEqual(told_of_handler((once, answer(ARG), once, answer(ARG), once)), "handlers")


class TestReleases(unittest.TestCase):
    def test_their_number(self):
        release = [[0, 0], [0, 0]]
        for count in (1, 2, 3, 4):
            self.assertIsNone(told_of(("releases",), [release] * count))
        for count in (0, 5):
            self.assertEqual(told_of(("releases",), [release] * count), "releases")

    def test_the_lengths(self):
        for index in (0, 1):
            for value in ([], [0], [0, 0, 0]):
                for release in (0, 1):
                    self.assertEqual(told_of(("releases", release, index), value), "releases")
        for value in ([], [[0, 0]], [[0, 0], [0, 0], []]):
            self.assertEqual(told_of(("releases", 0), value), "releases")

    def test_the_versions(self):
        for service, versions in ((0, 2), (1, 3)):
            for value in range(versions):
                self.assertIsNone(told_of(("releases", 1, 0, service), value))
            for value in (-1, versions, *WORST):
                with self.subTest(service=service, value=value):
                    self.assertEqual(told_of(("releases", 1, 0, service), value), "releases")

    def test_the_values(self):
        for switch in (0, 1):
            for value in (0, 1):
                self.assertIsNone(told_of(("releases", 1, 1, switch), value))
            for value in (-1, 2, *WORST):
                self.assertEqual(told_of(("releases", 1, 1, switch), value), "releases")


class TestOrder(unittest.TestCase):
    # Changes that make one part wrong each, in the order in which the parts are checked.
    CHANGES = (
        ("switches", ("switches",), 3),
        ("questions", ("questions", 1, 2), 5),
        ("services", ("services", 0, 0), 3),
        ("versions", ("services", 0, 1), []),
        ("sizes", ("services", 0, 1, 0, 0, 1), 5),
        ("up", ("services", 0, 1, 0, 1), [0]),
        ("down", ("services", 0, 1, 0, 2), [0]),
        ("handlers", ("services", 0, 1, 0, 3, 1), [[None, ["answer", ARG]]]),
        ("sizes", ("services", 0, 1, 1, 0), []),
        ("up", ("services", 0, 1, 1, 1, 0), 9),
        ("down", ("services", 0, 1, 1, 2, 0), 9),
        ("handlers", ("services", 0, 1, 1, 3), []),
        ("services", ("services", 1, 0), 0),
        ("sizes", ("services", 1, 1, 0, 0, 0), 0),
        ("up", ("services", 1, 1, 1, 1), []),
        ("handlers", ("services", 1, 1, 2, 3), []),
        ("releases", ("releases", 1, 0, 1), 3),
        ("clients", ("clients",), 0),
        ("asks", ("asks",), 4),
        ("losses", ("losses",), 3),
        ("doubles", ("doubles",), -1),
        ("crashes", ("crashes",), True),
    )

    def test_each_one_alone(self):
        for part, path, value in self.CHANGES:
            with self.subTest(path=path):
                self.assertEqual(told_of(path, value), part)

    def test_of_two_the_first_one_is_told(self):
        for (part, path, value), (_, other, wrong) in itertools.combinations(self.CHANGES, 2):
            # Without versions there is nothing in them to be changed.
            if path[:3] == ("services", 0, 1) and path == other[:3]:
                continue
            with self.subTest(first=path, second=other):
                self.assertEqual(told(changed((other, wrong), (path, value))), part)

    def test_the_number_of_services_comes_before_each_of_them(self):
        parts = changed((("services", 0, 0), 3), (("services", 1, 1), []))
        parts["services"] += [[1, []]] * 2
        self.assertEqual(told(parts), "services")

    def test_services_come_one_after_the_other(self):
        # The versions of the first service are looked at before the instances of the second one.
        self.assertEqual(told(changed((("services", 0, 1, 1, 2, 0), 9), (("services", 1, 0), 3))), "down")
        self.assertEqual(told(changed((("services", 0, 1), []), (("services", 1, 0), 3))), "versions")

    def test_all_parts_wrong_at_once(self):
        parts = {name: 9 if isinstance(value, int) else [[]] for name, value in spec().items()}
        for name in ORDER:
            with self.subTest(name=name):
                self.assertEqual(told(parts), name)
                parts[name] = spec()[name]
                if name == "switches":
                    # The questions name two services.
                    parts["services"] = [[], []]
        self.assertIsNone(told(parts))


if __name__ == "__main__":
    unittest.main()
