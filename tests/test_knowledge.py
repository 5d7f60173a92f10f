import inspect
import itertools
import unittest

from backissues import knowledge as module
from backissues.errors import UnknownName
from backissues.knowledge import gaps_of, held_for, knowledge, set_again, state_of
from backissues.shelf import Shelf
from tests.told import EXAMPLE_NAMES, NAMES, TWELVE, example_shelf, is_told, shelf_of
from tests.told import courses_in_plain_words, every_answer, gaps_in_plain_words, held_in_plain_words
from tests.told import is_set_again, large_bulletins, small_bulletins


def states_in_courses(names, issues, reach, had):
    """The state of each name, found by walking all the courses that fit."""
    courses = courses_in_plain_words(names, issues, reach, had)
    states = []
    for name in names:
        held_from = held_in_plain_words(issues, had, name)[0]
        again = [is_set_again(course, name, held_from) for course in courses]
        states.append("stale" if all(again) else "open" if any(again) else "sure")
    return states


class InterfaceTest(unittest.TestCase):
    def test_names_and_arguments(self):
        expected = {
            "held_for": ["shelf", "name"],
            "gaps_of": ["shelf"],
            "set_again": ["shelf", "name"],
            "state_of": ["shelf", "name"],
            "knowledge": ["shelf"],
        }
        for name, arguments in expected.items():
            with self.subTest(name):
                self.assertEqual(list(inspect.signature(getattr(module, name)).parameters), arguments)

    def test_the_three_texts(self):
        self.assertEqual((module.SURE, module.STALE, module.OPEN), ("sure", "stale", "open"))


class UnknownNameTest(unittest.TestCase):
    def test_every_question_about_a_name_that_is_none_of_the_shelfs(self):
        for had in ([], [1, 5], [1, 4], [1, 2, 3, 4, 5]):
            shelf = example_shelf(had)
            ahead = every_answer(shelf)
            for name in ("oak", "", "Ash", "ASH", "as", "ashh", "ash ", " elm", "ashelm"):
                for asked in (held_for, set_again, state_of):
                    with self.subTest(had=had, name=name, asked=asked.__name__):
                        with self.assertRaises(UnknownName):
                            asked(shelf, name)
            self.assertEqual(every_answer(shelf), ahead)


class HeldForTest(unittest.TestCase):
    def test_nothing_held(self):
        for name in EXAMPLE_NAMES:
            self.assertEqual(held_for(Shelf(EXAMPLE_NAMES, 1), name), (0, None))
            self.assertEqual(held_for(example_shelf([4]), name), (0, None))
        self.assertEqual(held_for(example_shelf([1, 3, 4]), "elm"), (0, None))

    def test_the_latest_had_issue_that_sets_the_name(self):
        self.assertEqual(held_for(example_shelf([1]), "ash"), (1, 5))
        self.assertEqual(held_for(example_shelf([1, 2]), "ash"), (1, 5))
        self.assertEqual(held_for(example_shelf([1, 2, 3]), "ash"), (3, 6))
        self.assertEqual(held_for(example_shelf([1, 2, 3, 4, 5]), "ash"), (3, 6))
        self.assertEqual(held_for(example_shelf([1, 2, 3, 4, 5]), "elm"), (5, 9))
        self.assertEqual(held_for(example_shelf([1, 2, 3, 4]), "elm"), (2, 7))

    def test_also_if_an_earlier_one_comes_later(self):
        for had in itertools.permutations([1, 2, 3, 5]):
            self.assertEqual(held_for(example_shelf(had), "ash"), (3, 6))
            self.assertEqual(held_for(example_shelf(had), "elm"), (5, 9))

    def test_a_value_of_0(self):
        issues = [[("ash", 4)], [("ash", 0), ("elm", 1000000)]]
        self.assertEqual(held_for(shelf_of(NAMES, 1, issues, [2, 1]), "ash"), (2, 0))
        self.assertEqual(held_for(shelf_of(NAMES, 1, issues, [2, 1]), "elm"), (2, 1000000))
        self.assertEqual(held_for(shelf_of(NAMES, 1, [[("ash", 0)]], [1]), "ash"), (1, 0))

    def test_issue_60(self):
        issues = [[("ash", 1)]] + [[]] * 58 + [[("ash", 2)]]
        self.assertEqual(held_for(shelf_of(NAMES, 1, issues, [60]), "ash"), (60, 2))
        self.assertEqual(held_for(shelf_of(NAMES, 1, issues, range(1, 60)), "ash"), (1, 1))


class GapsOfTest(unittest.TestCase):
    def test_no_issue_had(self):
        for reach in (0, 1, 10):
            self.assertEqual(gaps_of(Shelf(NAMES, reach)), ())

    def test_nothing_lacking(self):
        for latest in range(1, 6):
            self.assertEqual(gaps_of(example_shelf(range(1, latest + 1))), ())

    def test_the_example(self):
        self.assertEqual(gaps_of(example_shelf([1, 5])), ((2, 0, ()), (3, 0, ()), (4, 5, ())))
        self.assertEqual(gaps_of(example_shelf([1, 4])), ((2, 0, ()), (3, 4, ("ash",))))

    def test_the_names_stand_in_the_order_of_names(self):
        issues = [[("ash", 1), ("elm", 2)], []]
        self.assertEqual(gaps_of(shelf_of(NAMES, 1, issues, [2])), ((1, 2, ("elm", "ash")),))

    def test_the_least_had_number_above_is_the_teller(self):
        issues = [[("ash", 1)], [("elm", 1)], [], [], [("ash", 2)], []]
        self.assertEqual(gaps_of(shelf_of(NAMES, 3, issues, [6, 4, 3])), (
            (1, 3, ("ash",)), (2, 3, ("elm",)), (5, 6, ("ash",))))
        self.assertEqual(gaps_of(shelf_of(NAMES, 3, issues, [4, 6])), (
            (1, 4, ("ash",)), (2, 4, ("elm",)), (3, 4, ()), (5, 6, ("ash",))))

    def test_reach_0(self):
        shelf = shelf_of(NAMES, 0, [[("ash", 1)]] * 4, [2, 4])
        self.assertEqual(gaps_of(shelf), ((1, 0, ()), (3, 0, ())))

    def test_60_alone(self):
        shelf = shelf_of(NAMES, 10, [[("ash", 1)]] * 60, [60])
        dark = [(number, 0, ()) for number in range(1, 50)]
        seen = [(number, 60, ("ash",)) for number in range(50, 60)]
        self.assertEqual(gaps_of(shelf), tuple(dark + seen))


class SetAgainAndStateTest(unittest.TestCase):
    def check(self, shelf, name, state, again):
        self.assertEqual(state_of(shelf, name), state)
        self.assertEqual(set_again(shelf, name), again)

    def test_nothing_had(self):
        for reach in (0, 1, 10):
            self.check(Shelf(NAMES, reach), "ash", "sure", ())

    def test_the_example(self):
        self.check(example_shelf([1, 5]), "ash", "open", ())
        self.check(example_shelf([1, 5]), "elm", "sure", ())
        self.check(example_shelf([1, 4]), "ash", "stale", ((3, 4),))
        self.check(example_shelf([1, 4]), "elm", "open", ())
        self.check(example_shelf([1, 3, 5]), "ash", "sure", ())

    def test_not_held(self):
        self.check(shelf_of(NAMES, 1, [[("ash", 1)]], [1]), "elm", "sure", ())
        self.check(shelf_of(NAMES, 1, [[("ash", 1)], []], [2]), "elm", "sure", ())
        self.check(shelf_of(NAMES, 1, [[("ash", 1)], []], [2]), "ash", "stale", ((1, 2),))
        self.check(shelf_of(NAMES, 0, [[], []], [2]), "ash", "open", ())

    def test_a_seen_number_below_the_one_held_from(self):
        issues = [[("ash", 1)], [("ash", 2)], []]
        self.check(shelf_of(NAMES, 2, issues, [2]), "ash", "sure", ())
        self.check(shelf_of(NAMES, 2, issues, [2, 3]), "ash", "sure", ())

    def test_a_seen_number_just_above_the_one_held_from(self):
        self.check(shelf_of(NAMES, 1, [[("ash", 1)], [("ash", 2)], []], [1, 3]), "ash", "stale", ((2, 3),))
        self.check(shelf_of(NAMES, 1, [[("ash", 1)], [("elm", 2)], []], [1, 3]), "ash", "sure", ())

    def test_a_tail_that_tells_of_the_number_held_from_itself(self):
        # 2 is had, and the tail of 3 names it too: that is no setting again.
        self.check(shelf_of(NAMES, 2, [[("elm", 1)], [("ash", 2)], []], [2, 3]), "ash", "sure", ())

    def test_a_dark_number_just_below_and_just_above_the_one_held_from(self):
        issues = [[], [("ash", 2)], [], []]
        self.check(shelf_of(NAMES, 0, issues, [2]), "ash", "sure", ())
        self.check(shelf_of(NAMES, 0, issues, [2, 4]), "ash", "open", ())
        self.check(shelf_of(NAMES, 0, issues, [2, 3, 4]), "ash", "sure", ())

    def test_a_stale_name_with_dark_numbers_beside(self):
        issues = [[("ash", 1)], [], [("ash", 2)], [], [], [("ash", 3)], [], []]
        self.check(shelf_of(NAMES, 1, issues, [1, 4]), "ash", "stale", ((3, 4),))
        self.check(shelf_of(NAMES, 1, issues, [1, 4, 8]), "ash", "stale", ((3, 4),))
        self.check(shelf_of(NAMES, 1, issues, [1, 4, 8]), "elm", "open", ())

    def test_all_the_seen_numbers_in_ascending_order(self):
        issues = [[("ash", 1)]] * 8
        self.check(shelf_of(NAMES, 2, issues, [2, 8, 5]), "ash", "sure", ())
        issues = [[("ash", 1)], [("ash", 2)], [("ash", 3)], [], [("elm", 1)], [("ash", 4)], [("ash", 5)], []]
        shelf = shelf_of(NAMES, 2, issues, [8, 1, 4])
        self.check(shelf, "ash", "stale", ((2, 4), (3, 4), (6, 8), (7, 8)))

    def test_the_name_itself_counts_not_another(self):
        issues = [[("ash", 1), ("elm", 1)], [("elm", 2)], []]
        self.check(shelf_of(NAMES, 1, issues, [1, 3]), "ash", "sure", ())
        self.check(shelf_of(NAMES, 1, issues, [1, 3]), "elm", "stale", ((2, 3),))

    def test_names_within_one_another_are_apart(self):
        names = ("as", "ash", "h")
        shelf = shelf_of(names, 1, [[("ash", 1)], []], [2])
        self.assertEqual([state_of(shelf, name) for name in names], ["sure", "stale", "sure"])


class KnowledgeTest(unittest.TestCase):
    def test_the_example(self):
        self.assertEqual(knowledge(example_shelf([1, 5])), (("ash", "open", 1, 5), ("elm", "sure", 5, 9)))
        self.assertEqual(knowledge(example_shelf([1, 5, 3])), (("ash", "sure", 3, 6), ("elm", "sure", 5, 9)))
        self.assertEqual(knowledge(example_shelf([1, 4])), (("ash", "stale", 1, 5), ("elm", "open", 0, None)))

    def test_nothing_had(self):
        self.assertEqual(knowledge(Shelf(TWELVE, 3)), tuple((name, "sure", 0, None) for name in TWELVE))

    def test_each_name_in_the_order_of_names(self):
        issues = [[(name, value) for value, name in enumerate(TWELVE)][::-1]]
        expected = tuple((name, "sure", 1, value) for value, name in enumerate(TWELVE))
        self.assertEqual(knowledge(shelf_of(TWELVE, 3, issues, [1])), expected)

    def test_asking_changes_nothing(self):
        for had in ([], [1, 5], [1, 4], [2, 4]):
            shelf = example_shelf(had)
            first = every_answer(shelf)
            self.assertEqual(every_answer(shelf), first)
            self.assertTrue(is_told(first))

    def test_two_shelves_are_apart(self):
        one = example_shelf([1, 5])
        other = example_shelf([1, 4])
        self.assertEqual(knowledge(one), (("ash", "open", 1, 5), ("elm", "sure", 5, 9)))
        self.assertEqual(knowledge(other), (("ash", "stale", 1, 5), ("elm", "open", 0, None)))


class PlainWordsTest(unittest.TestCase):
    def check(self, names, issues, reach, had):
        shelf = shelf_of(names, reach, issues, had)
        gaps = gaps_in_plain_words(names, issues, reach, had)
        self.assertEqual(gaps_of(shelf), gaps)
        for told, name in zip(knowledge(shelf), names, strict=True):
            held = held_in_plain_words(issues, had, name)
            self.assertEqual(held_for(shelf, name), held)
            again = [gap[:2] for gap in gaps if gap[0] > held[0] and name in gap[2]]
            self.assertEqual(set_again(shelf, name), tuple(again))
            self.assertEqual(told, (name, state_of(shelf, name)) + held)
        self.assertTrue(is_told(every_answer(shelf)))

    def test_small_and_large_bulletins(self):
        for issues, reach, had in small_bulletins():
            self.check(NAMES, issues, reach, had)
        for issues, reach, had in large_bulletins():
            self.check(TWELVE, issues, reach, had)

    def test_the_states_are_those_of_the_courses_that_fit(self):
        met = set()
        for issues, reach, had in small_bulletins():
            shelf = shelf_of(NAMES, reach, issues, had)
            states = states_in_courses(NAMES, issues, reach, had)
            self.assertEqual([state_of(shelf, name) for name in NAMES], states)
            met.update(states)
        self.assertEqual(met, {"sure", "stale", "open"})

    def test_order_and_repeats_make_no_difference(self):
        for issues, reach, had in large_bulletins():
            answers = every_answer(shelf_of(TWELVE, reach, issues, had))
            for other in (sorted(had), sorted(had, reverse=True), had + had[::-1]):
                self.assertEqual(every_answer(shelf_of(TWELVE, reach, issues, other)), answers)

    def test_sure_and_stale_beside_one_who_has_all(self):
        for issues, reach, had in itertools.chain(small_bulletins(), large_bulletins()):
            names = NAMES if len(issues) == 5 else TWELVE
            whole = knowledge(shelf_of(names, reach, issues, range(1, max(had, default=0) + 1)))
            for told, full in zip(knowledge(shelf_of(names, reach, issues, had)), whole, strict=True):
                self.assertEqual(full[1], "sure")
                if told[1] == "sure":
                    self.assertEqual(told, full)
                if told[1] == "stale":
                    self.assertGreater(full[2], told[2])


if __name__ == "__main__":
    unittest.main()
