"""What the tests share."""

from backissues.errors import BadNames, BadReach
from backissues.office import Office
from backissues.shelf import Shelf

TWELVE = ["oak", "ash", "elm", "fir", "yew", "bay", "box", "fig", "nut", "pea", "rye", "hop"]
FAR_BEYOND = (10 ** 30, 10 ** 5000)

EXAMPLE_NAMES = ("ash", "elm")
EXAMPLE_ROWS = ([("ash", 5)], [("elm", 7)], [("ash", 6)], [], [("elm", 9)])


def is_told(value):
    """True for what a function may tell: a plain value, or a tuple of such."""
    if type(value) is tuple:
        return all(is_told(part) for part in value)
    return value is None or type(value) in (int, str, bool)


def office_of(names, reach, issues):
    office = Office(names, reach)
    for rows in issues:
        office.write(rows)
    return office


def shelf_of(names, reach, issues, had):
    """A shelf into which the numbers in `had` are put, in their order, out of a bulletin of these issues."""
    office = office_of(names, reach, issues)
    shelf = Shelf(names, reach)
    for number in had:
        shelf.put(office.issue(number))
    return shelf


def example_shelf(had):
    return shelf_of(EXAMPLE_NAMES, 1, EXAMPLE_ROWS, had)


class MadeOfNamesAndReach:
    """How an office and a shelf are made and refused alike; a test case says which by `kind`."""

    def check_refused(self, error, names, reach):
        for row in (list(names), tuple(names)):
            with self.assertRaises(error):
                self.kind(row, reach)
            self.assertEqual(list(row), list(names))

    def test_made_with_1_to_12_names(self):
        for many in range(1, 13):
            for row in (TWELVE[:many], tuple(TWELVE[:many])):
                with self.subTest(many):
                    self.assertEqual(self.kind(row, 3).latest(), 0)

    def test_made_with_names_at_the_edges_of_length_and_signs(self):
        self.assertEqual(self.kind((" ", "~", "a" * 20, " " * 20, "A", "a", "a "), 2).latest(), 0)

    def test_made_with_each_reach_from_0_to_10(self):
        for reach in range(11):
            with self.subTest(reach):
                self.assertEqual(self.kind(["ash"], reach).latest(), 0)

    def test_no_name_too_many_or_one_twice(self):
        for names in ([], TWELVE + ["ivy"], TWELVE * 3, ["ash", "ash"], ["ash", "elm", "ash"], TWELVE[:11] + ["oak"]):
            with self.subTest(names):
                self.check_refused(BadNames, names, 1)

    def test_reach_below_0_or_above_10(self):
        for reach in (-1, 11) + FAR_BEYOND + tuple(-far for far in FAR_BEYOND):
            self.check_refused(BadReach, ["ash"], reach)
            self.check_refused(BadReach, TWELVE, reach)

    def test_bad_names_are_refused_ahead_of_a_bad_reach(self):
        for names in ([], TWELVE + ["ivy"], ["ash", "ash"]):
            for reach in (-1, 11) + FAR_BEYOND:
                self.check_refused(BadNames, names, reach)

    def test_the_list_of_names_stays_as_it_was(self):
        names = ["elm", "ash"]
        self.kind(names, 1)
        self.assertEqual(names, ["elm", "ash"])
