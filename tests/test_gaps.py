import inspect
import itertools
import random
import unittest

from backissues import gaps
from backissues.gaps import dark_numbers, lacking_numbers, reached_by, seen_numbers, teller_of
from tests.told import is_told

EVERY = list(range(1, 61))


def rows_to_try():
    """Every choice of the numbers 1 to 7, and rows of up to 60, the same on each run."""
    for many in range(8):
        for row in itertools.combinations(range(1, 8), many):
            yield list(row)
    chance = random.Random(20)
    for turn in range(60):
        yield [chance.randint(1, 60) for step in range(chance.randint(1, 40))]


def cases_to_try():
    for had in rows_to_try():
        for reach in (0, 1, 2, 3, 9, 10):
            yield had, reach


class InterfaceTest(unittest.TestCase):
    def test_names_and_arguments(self):
        expected = {
            "lacking_numbers": ["had"],
            "reached_by": ["number", "reach"],
            "teller_of": ["had", "number", "reach"],
            "seen_numbers": ["had", "reach"],
            "dark_numbers": ["had", "reach"],
        }
        for name, arguments in expected.items():
            with self.subTest(name):
                self.assertEqual(list(inspect.signature(getattr(gaps, name)).parameters), arguments)


class LackingNumbersTest(unittest.TestCase):
    def check(self, had, expected):
        for row in (list(had), tuple(had)):
            told = lacking_numbers(row)
            self.assertEqual(told, expected)
            self.assertTrue(is_told(told))
            self.assertEqual(list(row), list(had))

    def test_no_number(self):
        self.check([], ())

    def test_one_number(self):
        self.check([1], ())
        self.check([2], (1,))
        self.check([5], (1, 2, 3, 4))
        self.check([60], tuple(range(1, 60)))

    def test_all_numbers_up_to_some_n(self):
        for latest in EVERY:
            with self.subTest(latest):
                self.check(range(1, latest + 1), ())

    def test_gaps_at_the_start_and_in_between(self):
        self.check([3, 4], (1, 2))
        self.check([1, 5], (2, 3, 4))
        self.check([2, 4, 5, 8], (1, 3, 6, 7))
        self.check([1, 60], tuple(range(2, 60)))
        self.check(range(2, 61), (1,))
        self.check(list(range(1, 59)) + [60], (59,))

    def test_any_order_and_more_than_once(self):
        self.check([8, 2, 5, 4], (1, 3, 6, 7))
        self.check([4, 8, 8, 2, 4, 5, 2, 8], (1, 3, 6, 7))
        self.check([5, 5, 5], (1, 2, 3, 4))

    def test_against_the_words_of_the_document(self):
        for had in rows_to_try():
            expected = sorted(set(range(1, max(had + [0]) + 1)) - set(had))
            self.check(had, tuple(expected))


class ReachedByTest(unittest.TestCase):
    def test_near_1(self):
        self.assertEqual(reached_by(1, 0), (1,))
        self.assertEqual(reached_by(1, 1), (1,))
        self.assertEqual(reached_by(1, 10), (1,))
        self.assertEqual(reached_by(2, 1), (1, 2))
        self.assertEqual(reached_by(2, 10), (1, 2))
        self.assertEqual(reached_by(10, 10), tuple(range(1, 11)))
        self.assertEqual(reached_by(11, 10), tuple(range(1, 12)))
        self.assertEqual(reached_by(12, 10), tuple(range(2, 13)))

    def test_near_60(self):
        self.assertEqual(reached_by(60, 0), (60,))
        self.assertEqual(reached_by(60, 1), (59, 60))
        self.assertEqual(reached_by(59, 2), (57, 58, 59))
        self.assertEqual(reached_by(60, 10), tuple(range(50, 61)))

    def test_reach_0_is_the_number_alone(self):
        for number in EVERY:
            self.assertEqual(reached_by(number, 0), (number,))

    def test_every_number_and_reach(self):
        for number in EVERY:
            for reach in range(11):
                told = reached_by(number, reach)
                expected = [low for low in EVERY if low <= number and number - low <= reach]
                self.assertEqual(told, tuple(expected))
                self.assertTrue(is_told(told))


class TellerOfTest(unittest.TestCase):
    def test_nothing_had(self):
        self.assertEqual(teller_of([], 1, 10), 0)
        self.assertEqual(teller_of((), 60, 10), 0)

    def test_just_at_the_reach_and_one_beyond(self):
        for reach in range(1, 11):
            with self.subTest(reach):
                self.assertEqual(teller_of([20 + reach], 20, reach), 20 + reach)
                self.assertEqual(teller_of([21 + reach], 20, reach), 0)

    def test_the_least_above_is_told(self):
        self.assertEqual(teller_of([9, 6, 8], 5, 4), 6)
        self.assertEqual(teller_of((8, 9, 7, 7), 5, 3), 7)
        self.assertEqual(teller_of([1, 4, 60, 12], 5, 10), 12)

    def test_a_had_number_has_a_teller_above_itself(self):
        self.assertEqual(teller_of([5], 5, 10), 0)
        self.assertEqual(teller_of([5, 6], 5, 1), 6)
        self.assertEqual(teller_of([5, 7], 5, 1), 0)

    def test_a_number_below_tells_nothing(self):
        self.assertEqual(teller_of([4], 5, 10), 0)
        self.assertEqual(teller_of([60], 60, 10), 0)
        self.assertEqual(teller_of([1, 2, 3], 60, 10), 0)

    def test_a_number_above_the_latest_had(self):
        self.assertEqual(teller_of([1, 5], 6, 10), 0)

    def test_reach_0_tells_nothing(self):
        for number in EVERY:
            self.assertEqual(teller_of(EVERY, number, 0), 0)

    def test_edges_of_the_numbers(self):
        self.assertEqual(teller_of([60], 59, 1), 60)
        self.assertEqual(teller_of([60], 50, 10), 60)
        self.assertEqual(teller_of([60], 49, 10), 0)
        self.assertEqual(teller_of([11], 1, 10), 11)
        self.assertEqual(teller_of([12], 1, 10), 0)

    def test_against_the_words_of_the_document(self):
        for had, reach in cases_to_try():
            for number in (1, 2, 3, 4, 5, 6, 7, 8, 30, 49, 50, 59, 60):
                above = [one for one in had if one > number and number in reached_by(one, reach)]
                expected = sorted(above)[0] if above else 0
                self.assertEqual(teller_of(had, number, reach), expected)
                self.assertEqual(teller_of(tuple(had), number, reach), expected)
                self.assertIs(type(teller_of(had, number, reach)), int)


class SeenAndDarkTest(unittest.TestCase):
    def test_the_example(self):
        self.assertEqual(lacking_numbers([1, 5]), (2, 3, 4))
        self.assertEqual(seen_numbers([1, 5], 1), ((4, 5),))
        self.assertEqual(dark_numbers([1, 5], 1), (2, 3))
        self.assertEqual(seen_numbers([1, 4], 1), ((3, 4),))
        self.assertEqual(dark_numbers([1, 4], 1), (2,))

    def test_nothing_lacking(self):
        for had in ([], [1], [2, 1], EVERY):
            for reach in (0, 1, 10):
                self.assertEqual(seen_numbers(had, reach), ())
                self.assertEqual(dark_numbers(had, reach), ())

    def test_reach_0_makes_all_dark(self):
        for had in rows_to_try():
            self.assertEqual(seen_numbers(had, 0), ())
            self.assertEqual(dark_numbers(had, 0), lacking_numbers(had))

    def test_60_alone(self):
        self.assertEqual(seen_numbers([60], 10), tuple((number, 60) for number in range(50, 60)))
        self.assertEqual(dark_numbers([60], 10), tuple(range(1, 50)))

    def test_each_seen_number_has_its_own_teller(self):
        self.assertEqual(seen_numbers([8, 3, 8, 5], 2), ((1, 3), (2, 3), (4, 5), (6, 8), (7, 8)))
        self.assertEqual(dark_numbers([8, 3, 8, 5], 2), ())
        self.assertEqual(seen_numbers([9, 4], 2), ((2, 4), (3, 4), (7, 9), (8, 9)))
        self.assertEqual(dark_numbers([9, 4], 2), (1, 5, 6))

    def test_each_lacking_number_is_in_exactly_one(self):
        for had, reach in cases_to_try():
            seen = seen_numbers(had, reach)
            dark = dark_numbers(had, reach)
            lacking = lacking_numbers(had)
            self.assertEqual(tuple(sorted([number for number, teller in seen] + list(dark))), lacking)
            self.assertEqual(seen, tuple(sorted(seen)))
            self.assertEqual(dark, tuple(sorted(dark)))
            for number, teller in seen:
                self.assertNotEqual(teller, 0)
                self.assertEqual(teller, teller_of(had, number, reach))
            for number in dark:
                self.assertEqual(teller_of(had, number, reach), 0)

    def test_order_and_repeats_make_no_difference(self):
        for had, reach in cases_to_try():
            other = tuple(reversed(had)) + tuple(had)
            self.assertEqual(lacking_numbers(other), lacking_numbers(had))
            self.assertEqual(seen_numbers(other, reach), seen_numbers(had, reach))
            self.assertEqual(dark_numbers(other, reach), dark_numbers(had, reach))


class AskingTest(unittest.TestCase):
    def test_what_is_told_holds_no_list_and_the_row_stays(self):
        for had, reach in cases_to_try():
            row = list(had)
            for told in (lacking_numbers(row), seen_numbers(row, reach), dark_numbers(row, reach)):
                self.assertIs(type(told), tuple)
                self.assertTrue(is_told(told))
            self.assertTrue(is_told(teller_of(row, 3, reach)))
            self.assertEqual(row, had)

    def test_asking_twice_tells_the_same_and_old_answers_stay(self):
        row = [7, 2]
        first = (lacking_numbers(row), seen_numbers(row, 2), dark_numbers(row, 2))
        again = (lacking_numbers(row), seen_numbers(row, 2), dark_numbers(row, 2))
        self.assertEqual(first, again)
        row.append(4)
        self.assertEqual(first, ((1, 3, 4, 5, 6), ((1, 2), (5, 7), (6, 7)), (3, 4)))
        self.assertEqual(lacking_numbers(row), (1, 3, 5, 6))


if __name__ == "__main__":
    unittest.main()
