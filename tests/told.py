"""What the tests share."""

import itertools
import random

from backissues.book import Book
from backissues.courses import again_count, course_count, every_course, two_courses
from backissues.errors import BadNames, BadReach, TooManyCourses
from backissues.knowledge import gaps_of, held_for, knowledge, set_again, state_of
from backissues.office import Office
from backissues.plan import send_for
from backissues.shelf import Shelf

TWELVE = ["oak", "ash", "elm", "fir", "yew", "bay", "box", "fig", "nut", "pea", "rye", "hop"]
FAR_BEYOND = (10 ** 30, 10 ** 5000)
FAR_BELOW = tuple(-far for far in FAR_BEYOND)

NAMES = ("elm", "ash")
EXAMPLE_NAMES = ("ash", "elm")
EXAMPLE_ROWS = ([("ash", 5)], [("elm", 7)], [("ash", 6)], [], [("elm", 9)])


def is_told(value):
    """True for what a function may tell: a plain value, or a tuple of such."""
    if type(value) is tuple:
        return all(is_told(part) for part in value)
    return value is None or type(value) in (int, str, bool)


def office_of(names, reach, issues):
    office = Office(names, reach)
    for rows in issues:
        office.write(rows)
    return office


def shelf_of(names, reach, issues, had):
    """A shelf into which the numbers in `had` are put, in their order, out of a bulletin of these issues."""
    office = office_of(names, reach, issues)
    shelf = Shelf(names, reach)
    for number in had:
        shelf.put(office.issue(number))
    return shelf


def example_shelf(had):
    return shelf_of(EXAMPLE_NAMES, 1, EXAMPLE_ROWS, had)


def book_of(names, reach, readers, deeds):
    """A book in which these deeds are done: a list is written, a pair of a reader and a number delivered."""
    book = Book(names, reach, readers)
    for deed in deeds:
        if isinstance(deed, list):
            book.write(deed)
        else:
            book.deliver(deed[0], deed[1])
    return book


def random_issues(chance, names, many):
    issues = []
    for turn in range(many):
        chosen = [name for name in names if chance.random() < 0.4]
        chance.shuffle(chosen)
        issues.append([(name, chance.choice((0, 1, 7, 1000000))) for name in chosen])
    return issues


def small_bulletins():
    """Bulletins of 5 issues and two names with every choice of them had, the same on each run."""
    chance = random.Random(5)
    for turn in range(6):
        issues = random_issues(chance, NAMES, 5)
        for reach in (0, 1, 2, 3):
            for many in range(6):
                for had in itertools.combinations(range(1, 6), many):
                    yield issues, reach, had


def large_bulletins():
    chance = random.Random(17)
    for turn in range(30):
        issues = random_issues(chance, TWELVE, 60)
        had = chance.sample(range(1, 61), chance.choice((1, 5, 20, 40, 59)))
        yield issues, chance.choice((0, 1, 4, 10)), had


def courses_told(shelf):
    """All the courses in one order, since any order is right; None where they are refused."""
    try:
        return tuple(sorted(every_course(shelf)))
    except TooManyCourses:
        return None


def every_answer(shelf):
    """What a shelf answers to every question; of those that any of several may answer, what is certain."""
    by_name = []
    for name in [told[0] for told in knowledge(shelf)]:
        by_name.append((held_for(shelf, name), set_again(shelf, name), state_of(shelf, name)))
        by_name.append((again_count(shelf, name), two_courses(shelf, name) is None, len(send_for(shelf, name)[0])))
    by_shelf = (shelf.had(), shelf.latest(), gaps_of(shelf), knowledge(shelf), len(send_for(shelf)[0]))
    return by_shelf + (course_count(shelf), courses_told(shelf), tuple(by_name))


def gaps_in_plain_words(names, issues, reach, had):
    gaps = []
    for number in range(1, max(had, default=0) + 1):
        if number not in had:
            tellers = [above for above in range(number + 1, number + reach + 1) if above in had]
            set_here = dict(issues[number - 1]) if tellers else {}
            gaps.append((number, tellers[0] if tellers else 0, tuple(name for name in names if name in set_here)))
    return tuple(gaps)


def held_in_plain_words(issues, had, name):
    setting = [number for number in had if name in dict(issues[number - 1])]
    return (max(setting), dict(issues[max(setting) - 1])[name]) if setting else (0, None)


def courses_in_plain_words(names, issues, reach, had):
    """All the courses that fit, put together from every choice of names at each dark number."""
    every = [chosen for many in range(len(names) + 1) for chosen in itertools.combinations(names, many)]
    dark = [number for number, teller, told in gaps_in_plain_words(names, issues, reach, had) if teller == 0]
    choices = []
    for number in range(1, max(had, default=0) + 1):
        set_here = dict(issues[number - 1])
        choices.append(every if number in dark else [tuple(name for name in names if name in set_here)])
    return list(itertools.product(*choices))


def is_set_again(course, name, held_from):
    return any(name in chosen for chosen in course[held_from:])


class MadeOfNamesAndReach:
    """How an office, a shelf and a book are made and refused alike; a test case says which by `kind`."""

    def check_refused(self, error, names, reach):
        for row in (list(names), tuple(names)):
            with self.assertRaises(error):
                self.kind(row, reach)
            self.assertEqual(list(row), list(names))

    def test_made_with_1_to_12_names(self):
        for many in range(1, 13):
            for row in (TWELVE[:many], tuple(TWELVE[:many])):
                with self.subTest(many):
                    self.assertEqual(self.kind(row, 3).latest(), 0)

    def test_made_with_names_at_the_edges_of_length_and_signs(self):
        self.assertEqual(self.kind((" ", "~", "a" * 20, " " * 20, "A", "a", "a "), 2).latest(), 0)

    def test_made_with_each_reach_from_0_to_10(self):
        for reach in range(11):
            with self.subTest(reach):
                self.assertEqual(self.kind(["ash"], reach).latest(), 0)

    def test_no_name_too_many_or_one_twice(self):
        for names in ([], TWELVE + ["ivy"], TWELVE * 3, ["ash", "ash"], ["ash", "elm", "ash"], TWELVE[:11] + ["oak"]):
            with self.subTest(names):
                self.check_refused(BadNames, names, 1)

    def test_reach_below_0_or_above_10(self):
        for reach in (-1, 11) + FAR_BEYOND + FAR_BELOW:
            self.check_refused(BadReach, ["ash"], reach)
            self.check_refused(BadReach, TWELVE, reach)

    def test_bad_names_are_refused_ahead_of_a_bad_reach(self):
        for names in ([], TWELVE + ["ivy"], ["ash", "ash"]):
            for reach in (-1, 11) + FAR_BEYOND:
                self.check_refused(BadNames, names, reach)

    def test_the_list_of_names_stays_as_it_was(self):
        names = ["elm", "ash"]
        self.kind(names, 1)
        self.assertEqual(names, ["elm", "ash"])
