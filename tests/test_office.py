import inspect
import itertools
import unittest

from backissues.errors import BadValue, NameTwice, NotWritten, OfficeFull, UnknownName
from backissues.office import Office
from tests.told import EXAMPLE_NAMES, EXAMPLE_ROWS, FAR_BELOW, FAR_BEYOND, TWELVE
from tests.told import MadeOfNamesAndReach, is_told, office_of

THREE = ("oak", "ash", "elm")
BAD_VALUES = (-1, 1000001) + FAR_BEYOND + FAR_BELOW


def every_issue(office):
    return tuple(office.issue(number) for number in range(1, office.latest() + 1))


def full_office(reach):
    """60 issues; the number n sets each third name, from the n-th on, to n."""
    office = Office(TWELVE, reach)
    for number in range(1, 61):
        office.write([(name, number) for name in TWELVE[number % 13::3]])
    return office


class InterfaceTest(unittest.TestCase):
    def test_names_and_arguments(self):
        self.assertEqual(list(inspect.signature(Office).parameters), ["names", "reach"])
        office = Office(["ash"], 0)
        for name, arguments in (("write", ["rows"]), ("latest", []), ("issue", ["number"])):
            with self.subTest(name):
                self.assertEqual(list(inspect.signature(getattr(office, name)).parameters), arguments)


class MadeTest(MadeOfNamesAndReach, unittest.TestCase):
    kind = Office

    def test_nothing_is_written_at_first(self):
        office = Office(THREE, 2)
        self.assertEqual(office.latest(), 0)
        for number in (1, 0, -1, 2):
            with self.assertRaises(NotWritten):
                office.issue(number)

    def test_names_at_the_edges_are_written_as_they_are(self):
        names = ["~", " ", "a" * 20, "A", "a"]
        office = Office(names, 1)
        office.write([(name, 1) for name in sorted(names)])
        self.assertEqual(office.issue(1), (1, tuple((name, 1) for name in names), ()))

    def test_a_list_of_names_that_changes_later_changes_nothing(self):
        names = ["oak", "ash"]
        office = Office(names, 1)
        names[0] = "fir"
        names.append("elm")
        self.assertEqual(office.write([("ash", 1), ("oak", 2)]), 1)
        self.assertEqual(office.issue(1), (1, (("oak", 2), ("ash", 1)), ()))
        for name in ("fir", "elm"):
            with self.assertRaises(UnknownName):
                office.write([(name, 1)])
        names.clear()
        self.assertEqual(office.write([("oak", 3)]), 2)

    def test_two_offices_of_the_same_list_are_apart(self):
        names = ["oak", "ash"]
        one = Office(names, 1)
        other = Office(names, 1)
        one.write([("oak", 4)])
        self.assertEqual((one.latest(), other.latest()), (1, 0))
        with self.assertRaises(NotWritten):
            other.issue(1)
        other.write([("ash", 5)])
        self.assertEqual(one.issue(1), (1, (("oak", 4),), ()))
        self.assertEqual(other.issue(1), (1, (("ash", 5),), ()))


class WriteTest(unittest.TestCase):
    def test_none_to_all_of_the_names_in_any_order(self):
        for many in range(4):
            for chosen in itertools.permutations(THREE, many):
                with self.subTest(chosen):
                    office = Office(THREE, 1)
                    self.assertEqual(office.write([(name, len(name) + ord(name[0])) for name in chosen]), 1)
                    expected = tuple((name, len(name) + ord(name[0])) for name in THREE if name in chosen)
                    self.assertEqual(office.issue(1), (1, expected, ()))

    def test_all_of_12_names_turned_round(self):
        office = Office(TWELVE, 1)
        office.write([(name, value) for value, name in enumerate(TWELVE)][::-1])
        self.assertEqual(office.issue(1)[1], tuple((name, value) for value, name in enumerate(TWELVE)))

    def test_lists_and_tuples_of_lists_and_tuples(self):
        for outer in (list, tuple):
            for first in (list, tuple):
                for second in (list, tuple):
                    office = Office(THREE, 1)
                    office.write(outer([first(("elm", 1)), second(("oak", 2))]))
                    self.assertEqual(office.issue(1), (1, (("oak", 2), ("elm", 1)), ()))
        for empty in ([], ()):
            office = Office(THREE, 1)
            self.assertEqual(office.write(empty), 1)
            self.assertEqual(office.issue(1), (1, (), ()))

    def test_the_rows_stay_and_may_change_later(self):
        office = Office(THREE, 1)
        rows = [["elm", 1], ["oak", 2]]
        office.write(rows)
        self.assertEqual(rows, [["elm", 1], ["oak", 2]])
        rows[0][1] = 77
        rows[1][0] = "ash"
        rows.append(["ash", 5])
        self.assertEqual(office.issue(1), (1, (("oak", 2), ("elm", 1)), ()))
        office.write([])
        self.assertEqual(office.issue(2), (2, (), ((1, ("oak", "elm")),)))

    def test_the_same_rows_may_be_written_twice(self):
        rows = [["ash", 5]]
        office = office_of(THREE, 1, [rows, rows])
        rows[0][1] = 6
        self.assertEqual(every_issue(office), ((1, (("ash", 5),), ()), (2, (("ash", 5),), ((1, ("ash",)),))))

    def test_values_at_the_edges(self):
        office = Office(THREE, 1)
        for number, value in enumerate((0, 1, 999999, 1000000), start=1):
            self.assertEqual(office.write([("ash", value)]), number)
            self.assertEqual(office.issue(number)[1], (("ash", value),))


class IssueTest(unittest.TestCase):
    def test_the_example(self):
        office = office_of(EXAMPLE_NAMES, 1, EXAMPLE_ROWS)
        self.assertEqual(every_issue(office), (
            (1, (("ash", 5),), ()),
            (2, (("elm", 7),), ((1, ("ash",)),)),
            (3, (("ash", 6),), ((2, ("elm",)),)),
            (4, (), ((3, ("ash",)),)),
            (5, (("elm", 9),), ((4, ()),)),
        ))

    def test_the_numbers_go_from_1_to_60_and_the_tails_as_far_as_they_reach(self):
        for reach in (0, 1, 2, 9, 10):
            office = full_office(reach)
            self.assertEqual(office.latest(), 60)
            for number in range(1, 61):
                told = office.issue(number)
                chosen = TWELVE[number % 13::3]
                self.assertEqual(told[:2], (number, tuple((name, number) for name in chosen)))
                ahead = [n for n in range(number - 1, 0, -1) if number - n <= reach]
                self.assertEqual(told[2], tuple((n, tuple(TWELVE[n % 13::3])) for n in ahead))
                self.assertEqual(len(told), 3)
                self.assertTrue(is_told(told))

    def test_the_tail_has_the_order_of_names_whatever_the_rows_had(self):
        office = office_of(THREE, 2, [[("elm", 1), ("ash", 2), ("oak", 3)], [("elm", 4), ("oak", 5)], []])
        self.assertEqual(office.issue(3), (3, (), ((2, ("oak", "elm")), (1, ("oak", "ash", "elm")))))

    def test_write_and_latest_tell_the_number(self):
        office = Office(THREE, 3)
        for number in range(1, 61):
            told = office.write([])
            self.assertEqual((told, office.latest()), (number, number))
            self.assertIs(type(told), int)
            self.assertIs(type(office.latest()), int)

    def test_an_issue_stays_the_same_when_later_ones_are_written(self):
        office = Office(THREE, 2)
        told = []
        for number in range(1, 61):
            office.write([(THREE[number % 3], number)])
            told.append(office.issue(number))
            self.assertEqual(every_issue(office), tuple(told))

    def test_not_written(self):
        for many in (0, 1, 5, 60):
            office = office_of(THREE, 2, [[]] * many)
            for number in (0, -1, -many, -many - 1, many + 1, many + 2, 61) + FAR_BEYOND:
                with self.assertRaises(NotWritten):
                    office.issue(number)
            for far in FAR_BEYOND:
                with self.assertRaises(NotWritten):
                    office.issue(-far)
            self.assertEqual(office.latest(), many)

    def test_asking_changes_nothing(self):
        office = office_of(EXAMPLE_NAMES, 1, EXAMPLE_ROWS)
        self.assertEqual(every_issue(office), every_issue(office))
        self.assertEqual((office.latest(), office.latest()), (5, 5))
        self.assertEqual(office.write([]), 6)


class RefusedTest(unittest.TestCase):
    def check_refused(self, office, error, rows):
        ahead = every_issue(office)
        for outer in (list, tuple):
            handed_in = outer(list(row) for row in rows)
            with self.assertRaises(error):
                office.write(handed_in)
            self.assertEqual(handed_in, outer(list(row) for row in rows))
            self.assertEqual(every_issue(office), ahead)

    def check_refused_at_every_stage(self, error, rows):
        for many in (0, 1, 59):
            office = office_of(THREE, 2, [[("ash", 3)]] * many)
            self.check_refused(office, error, rows)
            self.assertEqual(office.write([("oak", 7)]), many + 1)
            self.assertEqual(office.issue(many + 1)[1], (("oak", 7),))
            tail = [(n, ("ash",)) for n in (many, many - 1) if n > 0]
            self.assertEqual(office.issue(many + 1)[2], tuple(tail))

    def test_the_61st_issue(self):
        for reach in (0, 10):
            office = full_office(reach)
            for rows in ([], [("ash", 1)], [(name, 0) for name in TWELVE]):
                self.check_refused(office, OfficeFull, rows)

    def test_unknown_names(self):
        for name in ("fir", "", "Ash", "ASH", "as", "ashh", "ash ", " ash", "oakash"):
            with self.subTest(name):
                self.check_refused_at_every_stage(UnknownName, [(name, 1)])
                self.check_refused_at_every_stage(UnknownName, [("oak", 1), ("elm", 2), (name, 1)])
                self.check_refused_at_every_stage(UnknownName, [(name, 1), ("oak", 1)])

    def test_a_name_twice(self):
        for name in THREE:
            self.check_refused_at_every_stage(NameTwice, [(name, 1), (name, 1)])
            self.check_refused_at_every_stage(NameTwice, [(name, 1), (name, 2), (name, 3)])
        self.check_refused_at_every_stage(NameTwice, [("oak", 1), ("ash", 2), ("oak", 3)])
        self.check_refused_at_every_stage(NameTwice, [("oak", 1), ("ash", 2), ("elm", 0), ("elm", 3)])
        self.check_refused_at_every_stage(NameTwice, [("ash", 1)] * 1000)

    def test_bad_values(self):
        for value in BAD_VALUES:
            self.check_refused_at_every_stage(BadValue, [("ash", value)])
            self.check_refused_at_every_stage(BadValue, [("ash", value), ("oak", 0)])
            self.check_refused_at_every_stage(BadValue, [("elm", 0), ("oak", 1000000), ("ash", value)])

    def test_a_full_office_is_refused_ahead_of_the_rest(self):
        office = full_office(1)
        for rows in ([("fir?", 1)], [("ash", 1), ("ash", 1)], [("ash", -1)], [("ivy", -1), ("ash", 1), ("ash", 2)]):
            self.check_refused(office, OfficeFull, rows)

    def test_an_unknown_name_in_any_row_is_refused_ahead_of_a_name_twice_and_a_bad_value(self):
        for value in BAD_VALUES:
            for rows in itertools.permutations([("ash", 1), ("ash", value), ("fir", 1)]):
                self.check_refused(Office(THREE, 1), UnknownName, rows)
            for rows in itertools.permutations([("ash", value), ("fir", 1)]):
                self.check_refused(Office(THREE, 1), UnknownName, rows)
        self.check_refused(Office(THREE, 1), UnknownName, [("fir", 1), ("fir", 1)])
        self.check_refused(Office(THREE, 1), UnknownName, [("fir", -1)])

    def test_a_name_twice_in_any_rows_is_refused_ahead_of_a_bad_value(self):
        for value in BAD_VALUES:
            for rows in itertools.permutations([("ash", 1), ("oak", value), ("ash", 2)]):
                self.check_refused(Office(THREE, 1), NameTwice, rows)
            self.check_refused(Office(THREE, 1), NameTwice, [("ash", value), ("ash", 1)])
            self.check_refused(Office(THREE, 1), NameTwice, [("ash", value), ("ash", value)])

    def test_60_issues_are_written_whatever_was_refused_in_between(self):
        office = Office(THREE, 1)
        for number in range(1, 61):
            self.check_refused(office, BadValue, [("ash", -1)])
            self.assertEqual(office.write([("ash", number)]), number)
        self.check_refused(office, OfficeFull, [])


if __name__ == "__main__":
    unittest.main()
