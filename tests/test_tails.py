import inspect
import unittest

from backissues.tails import tail_for
from tests.told import is_told

FIVE = [("ash",), ("ash", "elm"), (), ("oak",), ("elm", "oak")]
FIFTY_NINE = [(f"name {number}",) if number % 3 else () for number in range(1, 60)]


class TailForTest(unittest.TestCase):
    def check(self, sets, reach, expected):
        for row in (list(sets), tuple(sets)):
            told = tail_for(row, reach)
            self.assertEqual(told, expected)
            self.assertIs(type(told), tuple)
            self.assertTrue(is_told(told))
            self.assertEqual(list(row), list(sets))

    def test_arguments(self):
        self.assertEqual(list(inspect.signature(tail_for).parameters), ["sets", "reach"])

    def test_no_set(self):
        for reach in range(11):
            self.check([], reach, ())

    def test_one_set(self):
        self.check([("ash", "elm")], 0, ())
        for reach in range(1, 11):
            self.check([("ash", "elm")], reach, ((1, ("ash", "elm")),))

    def test_reach_0(self):
        self.check(FIVE, 0, ())
        self.check(FIFTY_NINE, 0, ())

    def test_reach_1(self):
        self.check(FIVE, 1, ((5, ("elm", "oak")),))
        self.check(FIFTY_NINE, 1, ((59, ("name 59",)),))

    def test_the_nearest_first(self):
        self.check(FIVE, 2, ((5, ("elm", "oak")), (4, ("oak",))))

    def test_a_number_that_set_nothing_has_a_pair(self):
        self.check([()], 1, ((1, ()),))
        self.check(FIVE, 3, ((5, ("elm", "oak")), (4, ("oak",)), (3, ())))

    def test_none_below_1(self):
        whole = ((5, ("elm", "oak")), (4, ("oak",)), (3, ()), (2, ("ash", "elm")), (1, ("ash",)))
        self.check(FIVE, 4, whole[:4])
        for reach in range(5, 11):
            self.check(FIVE, reach, whole)

    def test_names_keep_the_order_they_have(self):
        self.check([("b", "c", "a")], 1, ((1, ("b", "c", "a")),))

    def test_59_sets(self):
        self.check(FIFTY_NINE, 10, tuple((number, FIFTY_NINE[number - 1]) for number in range(59, 49, -1)))

    def test_every_length_and_reach(self):
        for many in range(60):
            for reach in range(11):
                number = many + 1
                expected = [(n, FIFTY_NINE[n - 1]) for n in range(1, number) if number - n <= reach]
                self.check(FIFTY_NINE[:many], reach, tuple(reversed(expected)))

    def test_a_row_that_changes_later_changes_nothing_told(self):
        row = [("ash",), ("elm",)]
        told = tail_for(row, 2)
        row[0] = ("oak",)
        row.append(())
        self.assertEqual(told, ((2, ("elm",)), (1, ("ash",))))


if __name__ == "__main__":
    unittest.main()
