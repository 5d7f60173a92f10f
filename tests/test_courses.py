import inspect
import itertools
import unittest

from backissues import courses
from backissues.courses import again_count, course_count, every_course, fits, two_courses
from backissues.errors import TooManyCourses, UnknownName
from backissues.gaps import dark_numbers
from backissues.knowledge import held_for, state_of
from backissues.shelf import Shelf
from tests.told import EXAMPLE_NAMES, NAMES, TWELVE, courses_in_plain_words, every_answer, example_shelf
from tests.told import is_set_again, is_told, large_bulletins, shelf_of, small_bulletins

STRANGE = ("oak", "", "Ash", "as", "ash ", "ashelm")


def shelf_with_dark(names, many):
    """A shelf that lacks each second number, so that with a reach of 0 just `many` are dark."""
    had = [2 * turn + 1 for turn in range(many + 1)]
    return shelf_of(names, 0, [[(names[0], 1)]] * (2 * many + 1), had)


class InterfaceTest(unittest.TestCase):
    def test_names_and_arguments(self):
        expected = {
            "fits": ["shelf", "course"],
            "course_count": ["shelf"],
            "again_count": ["shelf", "name"],
            "every_course": ["shelf"],
            "two_courses": ["shelf", "name"],
        }
        for name, arguments in expected.items():
            with self.subTest(name):
                self.assertEqual(list(inspect.signature(getattr(courses, name)).parameters), arguments)


class UnknownNameTest(unittest.TestCase):
    def test_every_question_about_a_name_that_is_none_of_the_shelfs(self):
        for had in ([], [1, 5], [1, 4], [1, 2, 3, 4, 5]):
            shelf = example_shelf(had)
            ahead = every_answer(shelf)
            for name in STRANGE:
                for asked in (again_count, two_courses):
                    with self.subTest(had=had, name=name, asked=asked.__name__):
                        with self.assertRaises(UnknownName):
                            asked(shelf, name)
            self.assertEqual(every_answer(shelf), ahead)


class FitsTest(unittest.TestCase):
    def check(self, shelf, course, expected):
        with self.subTest(course=course):
            self.assertIs(fits(shelf, course), expected)

    def test_no_issue_had(self):
        for names in (NAMES, TWELVE):
            for reach in (0, 1, 10):
                shelf = Shelf(names, reach)
                self.check(shelf, (), True)
                self.check(shelf, ((),), False)
                self.check(shelf, (("ash",),), False)
                self.check(shelf, ((), ()), False)

    def test_any_names_at_the_dark_numbers(self):
        shelf = example_shelf([1, 5])
        choices = ((), ("ash",), ("elm",), ("ash", "elm"))
        for second, third in itertools.product(choices, choices):
            self.check(shelf, (("ash",), second, third, (), ("elm",)), True)

    def test_one_number_too_few_or_too_many(self):
        for had in ([1, 5], [5], [1, 2, 3, 4, 5], [1, 4], [1]):
            shelf = example_shelf(had)
            whole = (("ash",), ("elm",), ("ash",), (), ("elm",))[:max(had)]
            self.check(shelf, whole, True)
            self.check(shelf, whole[:-1], False)
            self.check(shelf, whole[1:], False)
            self.check(shelf, whole + ((),), False)
            self.check(shelf, whole + (whole[-1],), False)
            self.check(shelf, ((),) + whole, False)
            self.check(shelf, (), False)
            self.check(shelf, whole + ((),) * 100, False)

    def test_names_out_of_their_order(self):
        shelf = example_shelf([1, 5])
        self.check(shelf, (("ash",), ("elm", "ash"), (), (), ("elm",)), False)
        self.check(shelf, (("ash",), (), ("elm", "ash"), (), ("elm",)), False)
        issues = [[("ash", 1), ("elm", 1)], [("ash", 2), ("elm", 2)], []]
        whole = shelf_of(NAMES, 1, issues, [1, 3])
        self.check(whole, (("elm", "ash"), ("elm", "ash"), ()), True)
        self.check(whole, (("ash", "elm"), ("elm", "ash"), ()), False)
        self.check(whole, (("elm", "ash"), ("ash", "elm"), ()), False)

    def test_a_name_twice(self):
        shelf = example_shelf([1, 5])
        self.check(shelf, (("ash",), ("ash", "ash"), (), (), ("elm",)), False)
        self.check(shelf, (("ash",), (), ("ash", "elm", "elm"), (), ("elm",)), False)
        self.check(shelf, (("ash",), (), ("ash", "elm", "ash"), (), ("elm",)), False)
        self.check(shelf, (("ash", "ash"), (), (), (), ("elm",)), False)
        self.check(shelf, (("ash",), (), (), (), ("elm", "elm")), False)
        self.check(example_shelf([1, 4]), (("ash",), (), ("ash", "ash"), ()), False)

    def test_a_strange_name(self):
        shelf = example_shelf([1, 5])
        for name in STRANGE:
            self.check(shelf, (("ash",), (name,), (), (), ("elm",)), False)
            self.check(shelf, (("ash",), (), ("ash", name), (), ("elm",)), False)
            self.check(shelf, (("ash",), (), ("ash", "elm", name), (), ("elm",)), False)
            self.check(shelf, (("ash",), (), (name, "elm"), (), ("elm",)), False)
            self.check(shelf, ((name,), (), (), (), ("elm",)), False)
            self.check(shelf, (("ash", name), (), (), (), ("elm",)), False)
            self.check(shelf, (("ash",), (), (), (name,), ("elm",)), False)

    def test_a_name_more_or_less_at_a_had_number(self):
        shelf = example_shelf([1, 5])
        for first in ((), ("elm",), ("ash", "elm")):
            self.check(shelf, (first, (), (), (), ("elm",)), False)
        for last in ((), ("ash",), ("ash", "elm")):
            self.check(shelf, (("ash",), (), (), (), last), False)
        self.check(example_shelf([4]), ((), (), ("ash",), ()), True)
        self.check(example_shelf([4]), ((), (), ("ash",), ("ash",)), False)

    def test_a_name_more_or_less_at_a_seen_number(self):
        shelf = example_shelf([1, 5])
        for seen in (("ash",), ("elm",), ("ash", "elm")):
            self.check(shelf, (("ash",), (), (), seen, ("elm",)), False)
        shelf = example_shelf([1, 4])
        self.check(shelf, (("ash",), (), ("ash",), ()), True)
        for seen in ((), ("elm",), ("ash", "elm")):
            self.check(shelf, (("ash",), (), seen, ()), False)

    def test_every_course_of_one_choice_of_names_a_number(self):
        odd = ((), ("ash",), ("elm",), ("elm", "ash"), ("ash", "elm"), ("ash", "ash"), ("oak",))
        met = set()
        for issues, reach, had in small_bulletins():
            if len(had) > 0 and max(had) == 3:
                shelf = shelf_of(NAMES, reach, issues, had)
                fitting = courses_in_plain_words(NAMES, issues, reach, had)
                for course in itertools.product(odd, repeat=3):
                    told = fits(shelf, course)
                    self.assertIs(told, course in fitting)
                    met.add(told)
        self.assertEqual(met, {True, False})

    def test_all_60_numbers(self):
        issues = [[(TWELVE[number % 12], 1)] for number in range(60)]
        whole = tuple((TWELVE[number % 12],) for number in range(60))
        everywhere = (tuple(TWELVE),) * 59 + whole[59:]
        for had in (range(1, 61), [60], [30, 60]):
            shelf = shelf_of(TWELVE, 0, issues, had)
            self.check(shelf, whole, True)
            self.check(shelf, whole[:59], False)
            self.check(shelf, everywhere, had == [60])
        self.check(shelf_of(TWELVE, 1, issues, [60]), everywhere, False)


class CountTest(unittest.TestCase):
    def test_nothing_dark(self):
        for had in ([], [1], [1, 2, 3, 4, 5], [2, 4], [1, 3, 5]):
            shelf = example_shelf(had)
            self.assertEqual(course_count(shelf), 1)
            for name in EXAMPLE_NAMES:
                self.assertEqual(again_count(shelf, name), 1 if state_of(shelf, name) == "stale" else 0)

    def test_the_example(self):
        shelf = example_shelf([1, 5])
        self.assertEqual(course_count(shelf), 16)
        self.assertEqual(again_count(shelf, "ash"), 12)
        self.assertEqual(again_count(shelf, "elm"), 0)

    def test_a_stale_name_is_set_again_in_all(self):
        shelf = example_shelf([1, 4])
        self.assertEqual(course_count(shelf), 4)
        self.assertEqual(again_count(shelf, "ash"), 4)
        self.assertEqual(again_count(shelf, "elm"), 2)

    def test_dark_numbers_below_the_one_held_from_count_for_nothing(self):
        # 1, 3 and 5 are dark; ash is held from 2, elm from 4.
        shelf = shelf_of(NAMES, 0, [[], [("ash", 1)], [], [("elm", 1)], [], []], [2, 4, 6])
        self.assertEqual(course_count(shelf), 64)
        self.assertEqual(again_count(shelf, "ash"), 48)
        self.assertEqual(again_count(shelf, "elm"), 32)
        shelf = shelf_of(NAMES, 0, [[], [], [("ash", 1)]], [3])
        self.assertEqual(course_count(shelf), 16)
        self.assertEqual(again_count(shelf, "ash"), 0)
        self.assertEqual(again_count(shelf, "elm"), 12)

    def test_59_dark_numbers_with_12_names(self):
        shelf = shelf_of(TWELVE, 0, [[]] * 59 + [[("ash", 1)]], [60])
        self.assertEqual(course_count(shelf), 2 ** 708)
        self.assertEqual(again_count(shelf, "ash"), 0)
        for name in TWELVE:
            if name != "ash":
                self.assertEqual(again_count(shelf, name), 2 ** 708 - 2 ** (11 * 59))

    def test_58_dark_numbers_behind_the_first(self):
        shelf = shelf_of(TWELVE, 0, [[("ash", 1)]] + [[]] * 59, [1, 60])
        self.assertEqual(course_count(shelf), 2 ** 696)
        self.assertEqual(again_count(shelf, "ash"), 2 ** 696 - 2 ** (11 * 58))

    def test_a_stale_name_with_many_dark_numbers(self):
        shelf = shelf_of(TWELVE, 10, [[]] * 58 + [[("ash", 1)], []], [60])
        self.assertEqual(course_count(shelf), 2 ** (12 * 49))
        self.assertEqual(again_count(shelf, "ash"), 2 ** (12 * 49))
        self.assertEqual(again_count(shelf, "elm"), 2 ** (12 * 49) - 2 ** (11 * 49))

    def test_against_all_the_courses_of_small_bulletins(self):
        met = set()
        for issues, reach, had in small_bulletins():
            shelf = shelf_of(NAMES, reach, issues, had)
            fitting = courses_in_plain_words(NAMES, issues, reach, had)
            self.assertEqual(course_count(shelf), len(fitting))
            for name in NAMES:
                held_from = held_for(shelf, name)[0]
                again = [course for course in fitting if is_set_again(course, name, held_from)]
                self.assertEqual(again_count(shelf, name), len(again))
                met.add(state_of(shelf, name))
        self.assertEqual(met, {"sure", "stale", "open"})

    def test_none_all_or_some_by_the_state(self):
        for issues, reach, had in large_bulletins():
            shelf = shelf_of(TWELVE, reach, issues, had)
            count = course_count(shelf)
            self.assertEqual(count, 2 ** (12 * len(dark_numbers(had, reach))))
            for name in TWELVE:
                again = again_count(shelf, name)
                self.assertIs(type(again), int)
                state = "sure" if again == 0 else "stale" if again == count else "open"
                self.assertEqual(state_of(shelf, name), state)


class EveryCourseTest(unittest.TestCase):
    def check(self, shelf, many):
        ahead = (shelf.had(), course_count(shelf))
        told = every_course(shelf)
        self.assertTrue(is_told(told))
        self.assertEqual(len(told), many)
        self.assertEqual(len(set(told)), many)
        self.assertTrue(all(fits(shelf, course) for course in told))
        self.assertEqual(set(every_course(shelf)), set(told))
        self.assertEqual((shelf.had(), course_count(shelf)), ahead)

    def test_no_issue_had(self):
        for names in (NAMES, TWELVE):
            self.assertEqual(every_course(Shelf(names, 1)), ((),))

    def test_one_course(self):
        self.assertEqual(every_course(example_shelf([1])), ((("ash",),),))
        whole = (("ash",), ("elm",), ("ash",), (), ("elm",))
        for had in ([1, 2, 3, 4, 5], [1, 3, 5]):
            self.assertEqual(every_course(example_shelf(had)), (whole,))
        issues = [[(name, 1) for name in TWELVE]] * 60
        self.assertEqual(every_course(shelf_of(TWELVE, 10, issues, range(1, 61))), ((tuple(TWELVE),) * 60,))
        self.check(shelf_of(TWELVE, 10, issues, range(6, 61, 6)), 1)

    def test_the_example(self):
        shelf = example_shelf([1, 5])
        choices = ((), ("ash",), ("elm",), ("ash", "elm"))
        expected = [(("ash",), second, third, (), ("elm",)) for second in choices for third in choices]
        self.assertEqual(sorted(every_course(shelf)), sorted(expected))
        self.check(shelf, 16)

    def test_4096_courses_and_one_dark_number_more(self):
        for many in (1, 2, 3, 4, 6, 12):
            with self.subTest(many):
                names = TWELVE[:many]
                self.check(shelf_with_dark(names, 12 // many), 4096)
                shelf = shelf_with_dark(names, 12 // many + 1)
                ahead = every_answer(shelf)
                for turn in range(2):
                    with self.assertRaises(TooManyCourses):
                        every_course(shelf)
                self.assertEqual(every_answer(shelf), ahead)

    def test_the_most_that_is_told_where_12_is_no_multiple_of_the_names(self):
        for many in (5, 7, 8, 9, 10, 11):
            with self.subTest(many):
                dark = 12 // many
                self.check(shelf_with_dark(TWELVE[:many], dark), 2 ** (many * dark))
                with self.assertRaises(TooManyCourses):
                    every_course(shelf_with_dark(TWELVE[:many], dark + 1))

    def test_far_too_many(self):
        with self.assertRaises(TooManyCourses):
            every_course(shelf_of(TWELVE, 0, [[]] * 60, [60]))
        with self.assertRaises(TooManyCourses):
            every_course(shelf_of(["ash"], 0, [[]] * 60, [60]))

    def test_against_all_the_courses_of_small_bulletins(self):
        for issues, reach, had in small_bulletins():
            told = every_course(shelf_of(NAMES, reach, issues, had))
            self.assertEqual(sorted(told), sorted(courses_in_plain_words(NAMES, issues, reach, had)))


class TwoCoursesTest(unittest.TestCase):
    def check(self, shelf, name):
        told = two_courses(shelf, name)
        if state_of(shelf, name) != "open":
            self.assertIsNone(told)
            return
        self.assertTrue(is_told(told))
        self.assertEqual(len(told), 2)
        held_from = held_for(shelf, name)[0]
        for course, again in zip(told, (False, True)):
            self.assertIs(fits(shelf, course), True)
            self.assertIs(is_set_again(course, name, held_from), again)

    def test_the_example(self):
        shelf = example_shelf([1, 5])
        self.assertIsNotNone(two_courses(shelf, "ash"))
        self.check(shelf, "ash")
        self.assertIsNone(two_courses(shelf, "elm"))

    def test_none_for_a_stale_name(self):
        shelf = example_shelf([1, 4])
        self.assertEqual(state_of(shelf, "ash"), "stale")
        self.assertIsNone(two_courses(shelf, "ash"))
        self.check(shelf, "elm")

    def test_none_where_nothing_is_had(self):
        for reach in (0, 1, 10):
            for name in NAMES:
                self.assertIsNone(two_courses(Shelf(NAMES, reach), name))

    def test_dark_numbers_on_both_sides_of_the_one_held_from(self):
        issues = [[], [("ash", 1)], [], []]
        shelf = shelf_of(NAMES, 0, issues, [2, 4])
        self.assertEqual(state_of(shelf, "ash"), "open")
        self.check(shelf, "ash")
        self.check(shelf, "elm")
        self.assertIsNone(two_courses(shelf_of(NAMES, 0, issues, [2]), "ash"))

    def test_where_all_the_courses_are_too_many(self):
        shelf = shelf_of(TWELVE, 0, [[]] * 60, [60])
        for name in TWELVE:
            self.assertIsNotNone(two_courses(shelf, name))
            self.check(shelf, name)

    def test_small_and_large_bulletins(self):
        for issues, reach, had in itertools.chain(small_bulletins(), large_bulletins()):
            names = NAMES if len(issues) == 5 else TWELVE
            shelf = shelf_of(names, reach, issues, had)
            for name in names:
                self.check(shelf, name)

    def test_asking_changes_nothing(self):
        shelf = example_shelf([1, 5])
        ahead = every_answer(shelf)
        for name in EXAMPLE_NAMES:
            two_courses(shelf, name)
            again_count(shelf, name)
        fits(shelf, (("ash",), (), (), (), ("elm",)))
        self.assertEqual(every_answer(shelf), ahead)


if __name__ == "__main__":
    unittest.main()
