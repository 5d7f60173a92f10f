import inspect
import itertools
import unittest

from backissues.knowledge import held_for, knowledge
from backissues.shelf import Shelf
from tests.told import EXAMPLE_NAMES, EXAMPLE_ROWS, MadeOfNamesAndReach, example_shelf, is_told, office_of


def example_office():
    return office_of(EXAMPLE_NAMES, 1, EXAMPLE_ROWS)


class InterfaceTest(unittest.TestCase):
    def test_names_and_arguments(self):
        self.assertEqual(list(inspect.signature(Shelf).parameters), ["names", "reach"])
        shelf = Shelf(["ash"], 0)
        for name, arguments in (("put", ["issue"]), ("had", []), ("latest", [])):
            with self.subTest(name):
                self.assertEqual(list(inspect.signature(getattr(shelf, name)).parameters), arguments)


class MadeTest(MadeOfNamesAndReach, unittest.TestCase):
    kind = Shelf

    def test_nothing_is_had_at_first(self):
        for reach in (0, 1, 10):
            shelf = Shelf(["ash", "elm"], reach)
            self.assertEqual(shelf.had(), ())
            self.assertEqual(shelf.latest(), 0)

    def test_a_list_of_names_that_changes_later_changes_nothing(self):
        names = ["ash", "elm"]
        shelf = Shelf(names, 1)
        names.reverse()
        names.append("oak")
        shelf.put(example_office().issue(1))
        self.assertEqual(knowledge(shelf), (("ash", "sure", 1, 5), ("elm", "sure", 0, None)))
        names.clear()
        self.assertEqual(held_for(shelf, "elm"), (0, None))

    def test_two_shelves_of_the_same_list_are_apart(self):
        names = ["ash", "elm"]
        one = Shelf(names, 1)
        other = Shelf(names, 1)
        self.assertIs(one.put(example_office().issue(2)), True)
        self.assertEqual((one.had(), one.latest()), ((2,), 2))
        self.assertEqual((other.had(), other.latest()), ((), 0))
        self.assertIs(other.put(example_office().issue(2)), True)


class PutTest(unittest.TestCase):
    def test_any_order(self):
        office = example_office()
        for many in range(6):
            for order in itertools.permutations(range(1, 6), many):
                shelf = Shelf(EXAMPLE_NAMES, 1)
                for number in order:
                    self.assertIs(shelf.put(office.issue(number)), True)
                self.assertEqual(shelf.had(), tuple(sorted(order)))
                self.assertEqual(shelf.latest(), max(order, default=0))

    def test_the_latest_is_the_greatest_not_the_last_put(self):
        shelf = example_shelf([4, 2])
        self.assertEqual(shelf.latest(), 4)
        self.assertEqual(shelf.had(), (2, 4))

    def test_an_issue_put_twice(self):
        office = example_office()
        shelf = Shelf(EXAMPLE_NAMES, 1)
        for number in (5, 1, 3):
            self.assertIs(shelf.put(office.issue(number)), True)
            ahead = (shelf.had(), shelf.latest(), knowledge(shelf))
            for turn in range(3):
                self.assertIs(shelf.put(office.issue(number)), False)
                self.assertEqual((shelf.had(), shelf.latest(), knowledge(shelf)), ahead)
        for number in (1, 3, 5):
            self.assertIs(shelf.put(example_office().issue(number)), False)
        self.assertEqual(shelf.had(), (1, 3, 5))

    def test_60_issues(self):
        office = office_of(["ash"], 10, [[]] * 60)
        shelf = Shelf(["ash"], 10)
        for number in range(60, 0, -1):
            self.assertIs(shelf.put(office.issue(number)), True)
            self.assertEqual(shelf.latest(), 60)
        self.assertEqual(shelf.had(), tuple(range(1, 61)))
        self.assertIs(shelf.put(office.issue(60)), False)

    def test_putting_changes_nothing_in_the_office_and_the_other_way_round(self):
        office = office_of(EXAMPLE_NAMES, 1, EXAMPLE_ROWS[:2])
        told = (office.issue(1), office.issue(2))
        shelf = Shelf(EXAMPLE_NAMES, 1)
        shelf.put(office.issue(2))
        self.assertEqual((office.issue(1), office.issue(2), office.latest()), told + (2,))
        office.write([("ash", 9)])
        self.assertEqual((shelf.had(), shelf.latest()), ((2,), 2))

    def test_asking_changes_nothing_and_old_answers_stay(self):
        shelf = example_shelf([5, 1])
        first = (shelf.had(), shelf.latest())
        self.assertEqual((shelf.had(), shelf.latest()), first)
        self.assertTrue(is_told(first))
        self.assertIs(type(shelf.had()), tuple)
        shelf.put(example_office().issue(3))
        self.assertEqual(first, ((1, 5), 5))
        self.assertEqual(shelf.had(), (1, 3, 5))


if __name__ == "__main__":
    unittest.main()
