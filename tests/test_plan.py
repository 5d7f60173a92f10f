import inspect
import itertools
import random
import unittest

from backissues import plan
from backissues.errors import UnknownName
from backissues.gaps import dark_numbers, lacking_numbers, reached_by
from backissues.knowledge import held_for, knowledge, state_of
from backissues.plan import fewest_numbers, send_for
from backissues.shelf import Shelf
from tests.told import EXAMPLE_NAMES, NAMES, TWELVE, every_answer, example_shelf, is_told
from tests.told import large_bulletins, shelf_of, small_bulletins


def reaches_all(numbers, dark, reach):
    return all(any(one in reached_by(number, reach) for number in numbers) for one in dark)


def fewest_by_search(had, reach, behind):
    """How many lacking numbers are needed, found by trying every choice of them."""
    dark = [number for number in dark_numbers(had, reach) if number > behind]
    for many in range(len(dark) + 1):
        for numbers in itertools.combinations(lacking_numbers(had), many):
            if reaches_all(numbers, dark, reach):
                return many


class PlanTest(unittest.TestCase):
    def check_pair(self, told, had, reach, behind):
        """All that point 18 asks of an answer; so many dark numbers apart prove that fewer can't do."""
        self.assertTrue(is_told(told))
        fewest, apart = told
        dark = [number for number in dark_numbers(had, reach) if number > behind]
        self.assertEqual(fewest, tuple(sorted(set(fewest))))
        self.assertEqual(apart, tuple(sorted(set(apart))))
        self.assertTrue(set(fewest) <= set(lacking_numbers(had)))
        self.assertTrue(set(apart) <= set(dark))
        self.assertTrue(reaches_all(fewest, dark, reach))
        self.assertEqual(len(apart), len(fewest))
        for lower, upper in itertools.combinations(apart, 2):
            self.assertGreater(upper - lower, reach)


class InterfaceTest(unittest.TestCase):
    def test_names_and_arguments(self):
        self.assertEqual(list(inspect.signature(plan.fewest_numbers).parameters), ["had", "reach", "behind"])
        arguments = inspect.signature(plan.send_for).parameters
        self.assertEqual(list(arguments), ["shelf", "name"])
        self.assertIsNone(arguments["name"].default)


class FewestNumbersTest(PlanTest):
    def check(self, had, reach, behind, many):
        for row in (list(had), tuple(had), list(had)[::-1], tuple(had) * 2):
            ahead = list(row)
            told = fewest_numbers(row, reach, behind)
            self.check_pair(told, had, reach, behind)
            self.assertEqual(len(told[0]), many)
            self.assertEqual(list(row), ahead)

    def test_nothing_had_or_nothing_lacking(self):
        for had in ([], [1], [1, 2, 3], list(range(1, 61))):
            for reach in (0, 1, 10):
                for behind in (0, 1, 60):
                    self.assertEqual(fewest_numbers(had, reach, behind), ((), ()))
                    self.assertEqual(fewest_numbers(tuple(had), reach, behind), ((), ()))

    def test_lacking_but_not_dark(self):
        self.assertEqual(fewest_numbers([2, 4, 6], 1, 0), ((), ()))
        self.assertEqual(fewest_numbers([11], 10, 0), ((), ()))
        self.assertEqual(fewest_numbers([60] + list(range(1, 50)), 10, 0), ((), ()))

    def test_the_example(self):
        self.assertIn(fewest_numbers([1, 5], 1, 1), (((3,), (2,)), ((3,), (3,))))
        self.assertIn(fewest_numbers([1, 5], 1, 0), (((3,), (2,)), ((3,), (3,))))
        self.assertIn(fewest_numbers([1, 5], 1, 2), (((3,), (3,)), ((4,), (3,))))
        self.assertEqual(fewest_numbers([1, 5], 1, 3), ((), ()))

    def test_reach_0_asks_for_each_dark_number(self):
        self.assertEqual(fewest_numbers([1, 5], 0, 0), ((2, 3, 4), (2, 3, 4)))
        self.assertEqual(fewest_numbers([5, 1], 0, 2), ((3, 4), (3, 4)))
        self.assertEqual(fewest_numbers([60], 0, 0), (tuple(range(1, 60)), tuple(range(1, 60))))
        self.assertEqual(fewest_numbers([60], 0, 58), ((59,), (59,)))

    def test_reach_1(self):
        self.check([60], 1, 0, 29)
        self.check([7], 1, 0, 3)
        self.check([6], 1, 0, 2)
        self.check([9, 4], 1, 0, 3)

    def test_reach_10(self):
        self.check([60], 10, 0, 5)
        self.check([12], 10, 0, 1)
        self.check([22], 10, 0, 1)
        self.check([23], 10, 0, 2)
        self.check([1, 60], 10, 1, 5)
        self.check([30, 60], 10, 0, 4)

    def test_behind_within_and_above_the_dark_numbers(self):
        # Of 10 alone with a reach of 2 the dark numbers are 1 to 7.
        for behind, many in ((0, 3), (1, 2), (3, 2), (4, 1), (6, 1), (7, 0), (8, 0), (9, 0), (10, 0), (60, 0)):
            with self.subTest(behind):
                self.check([10], 2, behind, many)
        self.assertEqual(fewest_numbers([10], 2, 7), ((), ()))
        self.assertEqual(fewest_numbers([10], 2, 60), ((), ()))

    def test_a_dark_number_just_below_the_reach_of_a_had_one(self):
        # Its neighbours above are seen; one of them may be told, for it is lacking and reaches the dark one.
        for reach in range(1, 11):
            self.check([20, 20 - reach - 2] + list(range(1, 20 - reach - 2)), reach, 0, 1)

    def test_gaps_lying_near_one_another_are_not_reached_across_a_had_number(self):
        self.check([4, 8], 2, 0, 2)
        self.check([4, 5, 9], 2, 0, 2)

    def test_against_a_search_through_all_choices(self):
        for many in range(8):
            for had in itertools.combinations(range(1, 8), many):
                for reach in (0, 1, 2, 3, 10):
                    for behind in range(8):
                        told = fewest_numbers(had, reach, behind)
                        self.check_pair(told, had, reach, behind)
                        self.assertEqual(len(told[0]), fewest_by_search(had, reach, behind))

    def test_long_rows_in_any_order_with_numbers_twice(self):
        chance = random.Random(8)
        for turn in range(150):
            row = [chance.randint(1, 60) for step in range(chance.choice((1, 2, 4, 8, 16)))]
            row = row + row[:2]
            ahead = list(row)
            for reach in (0, 1, 2, 5, 10):
                behind = chance.randint(0, 60)
                for asked in (row, tuple(row)):
                    self.check_pair(fewest_numbers(asked, reach, 0), row, reach, 0)
                    self.check_pair(fewest_numbers(asked, reach, behind), row, reach, behind)
            self.assertEqual(row, ahead)

    def test_what_was_told_stays(self):
        row = [1, 5]
        told = fewest_numbers(row, 0, 0)
        row.append(3)
        self.assertEqual(told, ((2, 3, 4), (2, 3, 4)))
        self.assertEqual(fewest_numbers(row, 0, 0), ((2, 4), (2, 4)))


class SendForTest(PlanTest):
    def test_the_example(self):
        shelf = example_shelf([1, 5])
        for told in (send_for(shelf, "ash"), send_for(shelf, name="ash"), send_for(shelf), send_for(shelf, None)):
            self.assertIn(told, (((3,), (2,)), ((3,), (3,))))
        self.assertEqual(send_for(shelf, "elm"), ((), ()))

    def test_a_stale_name(self):
        shelf = example_shelf([1, 4])
        self.assertEqual(state_of(shelf, "ash"), "stale")
        self.assertEqual(send_for(shelf, "ash"), ((), ()))
        # elm is not held, so 2 is behind; ash, though held from 1, is not asked for.
        self.assertIn(send_for(shelf, "elm"), (((2,), (2,)), ((3,), (2,))))
        self.assertIn(send_for(shelf), (((2,), (2,)), ((3,), (2,))))

    def test_no_name_is_open(self):
        for had in ([], [1], [1, 2, 3], [1, 2, 3, 4, 5], [2, 4], [1, 3, 5], [2, 5, 3]):
            shelf = example_shelf(had)
            self.assertNotIn("open", [told[1] for told in knowledge(shelf)])
            self.assertEqual(send_for(shelf), ((), ()))
            for name in EXAMPLE_NAMES:
                self.assertEqual(send_for(shelf, name), ((), ()))

    def test_a_dark_number_but_no_open_name(self):
        # 1 is dark, and both names are held from 2.
        shelf = shelf_of(NAMES, 0, [[], [("ash", 1), ("elm", 1)]], [2])
        self.assertEqual(dark_numbers(shelf.had(), 0), (1,))
        self.assertEqual(send_for(shelf), ((), ()))

    def test_a_stale_name_above_dark_numbers_alone(self):
        shelf = shelf_of(("ash",), 1, [[("ash", 1)], [], [("ash", 2)], []], [1, 4])
        self.assertEqual(dark_numbers(shelf.had(), 1), (2,))
        self.assertEqual(send_for(shelf, "ash"), ((), ()))
        self.assertEqual(send_for(shelf), ((), ()))

    def test_each_name_is_asked_for_from_where_it_is_held(self):
        names = ("ash", "elm", "fir")
        issues = [[("ash", 1)], [], [("elm", 1)], [], [("fir", 1)]]
        shelf = shelf_of(names, 0, issues, [1, 3, 5])
        self.assertEqual(send_for(shelf, "ash"), ((2, 4), (2, 4)))
        self.assertEqual(send_for(shelf, "elm"), ((4,), (4,)))
        self.assertEqual(send_for(shelf, "fir"), ((), ()))
        self.assertEqual(send_for(shelf), ((2, 4), (2, 4)))

    def test_the_least_number_that_an_open_name_is_held_from(self):
        # fir is stale from 1 and oak sure from 12; open are ash, from 4, and elm, from 8.
        names = ("elm", "fir", "ash", "oak")
        issues = [[("fir", 1)], [], [], [("ash", 1)], [], [], [], [("elm", 1)], [], [], [("fir", 2)], [("oak", 1)]]
        shelf = shelf_of(names, 1, issues, [1, 4, 8, 12])
        self.assertEqual([told[1] for told in knowledge(shelf)], ["open", "stale", "open", "sure"])
        self.assertEqual(dark_numbers(shelf.had(), 1), (2, 5, 6, 9, 10))
        for told in (send_for(shelf), send_for(shelf, "ash")):
            self.check_pair(told, shelf.had(), 1, 4)
            self.assertEqual(len(told[0]), 2)
        self.check_pair(send_for(shelf, "elm"), shelf.had(), 1, 8)
        self.assertEqual(len(send_for(shelf, "elm")[0]), 1)

    def test_nothing_held(self):
        shelf = shelf_of(TWELVE, 10, [[]] * 60, [60])
        for told in (send_for(shelf), send_for(shelf, "hop")):
            self.check_pair(told, [60], 10, 0)
            self.assertEqual(len(told[0]), 5)

    def test_small_and_large_bulletins(self):
        met = set()
        for issues, reach, had in itertools.chain(small_bulletins(), large_bulletins()):
            names = NAMES if len(issues) == 5 else TWELVE
            shelf = shelf_of(names, reach, issues, had)
            opened = [held_for(shelf, name)[0] for name in names if state_of(shelf, name) == "open"]
            # Behind 60 there is nothing dark, as for a name that is not open.
            self.check_pair(send_for(shelf), had, reach, min(opened, default=60))
            for name in names:
                state = state_of(shelf, name)
                met.add(state)
                behind = held_for(shelf, name)[0] if state == "open" else 60
                self.check_pair(send_for(shelf, name), had, reach, behind)
        self.assertEqual(met, {"sure", "stale", "open"})

    def test_unknown_name(self):
        for had in ([], [1, 5], [1, 4], [1, 2, 3, 4, 5]):
            shelf = example_shelf(had)
            ahead = every_answer(shelf)
            for name in ("oak", "", "Ash", "as", "ash ", "ashelm"):
                with self.assertRaises(UnknownName):
                    send_for(shelf, name)
            self.assertEqual(every_answer(shelf), ahead)

    def test_a_new_shelf(self):
        for reach in (0, 1, 10):
            self.assertEqual(send_for(Shelf(NAMES, reach)), ((), ()))
            self.assertEqual(send_for(Shelf(NAMES, reach), "ash"), ((), ()))

    def test_asking_changes_nothing(self):
        shelf = example_shelf([1, 5])
        ahead = every_answer(shelf)
        send_for(shelf)
        send_for(shelf, "ash")
        self.assertEqual(every_answer(shelf), ahead)


if __name__ == "__main__":
    unittest.main()
