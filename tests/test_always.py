"""What holds over the whole program, tried on books with many orders of deeds."""

import ast
import itertools
import random
import unittest
from pathlib import Path

from backissues.courses import every_course
from backissues.gaps import dark_numbers, lacking_numbers
from backissues.history import history
from backissues.knowledge import gaps_of, knowledge, state_of
from backissues.plan import send_for
from tests.told import NAMES, TWELVE, book_of, every_answer, held_in_plain_words, is_told
from tests.told import random_issues, shelf_of

PACKAGE = Path(__file__).resolve().parent.parent / "backissues"


def orders_of(numbers):
    for many in range(len(numbers) + 1):
        for order in itertools.permutations(numbers, many):
            yield list(order)


def small_books():
    """Books of 4 issues with one reader who gets any of them in any order, the same on each run."""
    chance = random.Random(25)
    for turn in range(4):
        issues = random_issues(chance, NAMES, 4)
        for reach in (0, 1, 2):
            for order in orders_of((1, 2, 3, 4)):
                deeds = issues + [(1, number) for number in order]
                yield NAMES, issues, reach, 1, book_of(NAMES, reach, 1, deeds)


def random_deeds(chance, issues, readers, many):
    """Writings and gettings mixed, the newest numbers and back numbers alike; some gettings come anew."""
    deeds = []
    written = 0
    while len(deeds) < many:
        if written < len(issues) and (written == 0 or chance.random() < 0.3):
            deeds.append(issues[written])
            written += 1
        else:
            number = written if chance.random() < 0.3 else chance.randint(1, written)
            deeds.append((chance.randint(1, readers), number))
    return deeds


def mixed_books():
    chance = random.Random(29)
    for turn in range(40):
        names = TWELVE[:chance.choice((1, 2, 3, 5))]
        readers = chance.choice((1, 2, 3))
        issues = random_issues(chance, names, chance.choice((6, 12, 20)))
        reach = chance.choice((0, 1, 2, 4))
        deeds = random_deeds(chance, issues, readers, 50)
        yield names, issues, reach, readers, book_of(names, reach, readers, deeds)
    for reach in (0, 3, 10):
        issues = random_issues(chance, TWELVE, 60)
        yield TWELVE, issues, reach, 10, book_of(TWELVE, reach, 10, random_deeds(chance, issues, 10, 400))


def books():
    return itertools.chain(small_books(), mixed_books())


def gettings(book):
    """Each getting as a triple: the number got, and the shelf ahead of the deed and behind it."""
    for which in range(1, book.deeds() + 1):
        deed = book.deed(which)
        if deed[0] == "deliver":
            yield deed[2], book.shelf(deed[1], which - 1), book.shelf(deed[1], which)


def states(shelf):
    return [told[1] for told in knowledge(shelf)]


def last_shelves():
    for names, issues, reach, readers, book in books():
        for reader in range(1, readers + 1):
            yield names, issues, reach, book, book.shelf(reader)


class WholeRowsTest(unittest.TestCase):
    """Point 25."""

    def test_who_has_all_up_to_some_n_is_sure_of_all(self):
        for names, issues, reach, readers, book in books():
            shelf = book.shelf(1, 0)
            for number in range(1, book.latest() + 1):
                shelf.put(book.issue(number))
                had = range(1, number + 1)
                expected = tuple((name, "sure") + held_in_plain_words(issues, had, name) for name in names)
                self.assertEqual(knowledge(shelf), expected)

    def test_also_in_a_book_where_numbers_came_out_of_their_order(self):
        met = 0
        for names, issues, reach, readers, book in books():
            for number, ahead, behind in gettings(book):
                if len(behind.had()) == behind.latest():
                    met += 1
                    for told in knowledge(behind):
                        self.assertEqual(told[1:], ("sure",) + held_in_plain_words(issues, behind.had(), told[0]))
        self.assertGreater(met, 100)

    def test_sure_and_stale_beside_one_who_has_all(self):
        met = set()
        for names, issues, reach, book, shelf in last_shelves():
            whole = shelf_of(names, reach, issues, range(1, shelf.latest() + 1))
            for told, full in zip(knowledge(shelf), knowledge(whole), strict=True):
                met.add(told[1])
                if told[1] == "sure":
                    self.assertEqual(told, full)
                if told[1] == "stale":
                    self.assertGreater(full[2], told[2])
        self.assertEqual(met, {"sure", "stale", "open"})


class SameIssuesTest(unittest.TestCase):
    """Point 26."""

    def test_whatever_order_and_however_often(self):
        chance = random.Random(26)
        for names, issues, reach, readers, book in mixed_books():
            for reader in range(1, readers + 1):
                had = list(book.shelf(reader).had())
                expected = every_answer(book.shelf(reader))
                mixed = had + chance.sample(had, len(had) // 2)
                chance.shuffle(mixed)
                for order in (had, had[::-1], mixed):
                    other = book_of(names, reach, 1, issues + [(1, number) for number in order])
                    self.assertEqual(every_answer(other.shelf(1)), expected)

    def test_every_order_of_few_issues(self):
        answers = {}
        for names, issues, reach, readers, book in small_books():
            key = (str(issues), reach, book.shelf(1).had())
            told = every_answer(book.shelf(1))
            self.assertEqual(told, answers.setdefault(key, told))

    def test_the_deeds_of_others_in_between(self):
        for names, issues, reach, readers, book in mixed_books():
            for reader in range(1, readers + 1):
                deeds = [book.deed(which) for which in range(1, book.deeds() + 1)]
                own = [deed[1:] for deed in deeds if deed[:2] == ("deliver", reader)]
                alone = book_of(names, reach, readers, issues + own)
                self.assertEqual(every_answer(alone.shelf(reader)), every_answer(book.shelf(reader)))


class BackNumberTest(unittest.TestCase):
    """Point 27."""

    def test_what_was_sure_stays_so(self):
        met = 0
        for names, issues, reach, readers, book in books():
            for number, ahead, behind in gettings(book):
                if number < ahead.latest():
                    for was, now in zip(knowledge(ahead), knowledge(behind), strict=True):
                        if was[1] == "sure":
                            met += 1
                            self.assertEqual(now, was)
        self.assertGreater(met, 1000)


class SentForTest(unittest.TestCase):
    """Point 28."""

    def bulletin_of(self, course):
        return [[(name, number) for name in chosen] for number, chosen in enumerate(course, start=1)]

    def test_once_they_have_come_nothing_they_were_told_for_is_open(self):
        met = 0
        for names, issues, reach, readers, book in books():
            for reader in range(1, readers + 1):
                for name in list(names) + [None]:
                    shelf = book.shelf(reader)
                    asked = names if name is None else [name]
                    met += "open" in [state_of(shelf, one) for one in asked]
                    for number in send_for(shelf, name)[0]:
                        self.assertIs(shelf.put(book.issue(number)), True)
                    self.assertNotIn("open", [state_of(shelf, one) for one in asked])
        self.assertGreater(met, 100)

    def test_whatever_the_lacking_issues_set(self):
        met = 0
        for names, issues, reach, readers, book in small_books():
            shelf = book.shelf(1)
            if "open" not in states(shelf):
                continue
            for course in every_course(shelf):
                other = self.bulletin_of(course)
                self.assertEqual(gaps_of(shelf_of(names, reach, other, shelf.had())), gaps_of(shelf))
                for name in list(names) + [None]:
                    sent = send_for(shelf, name)[0]
                    mended = shelf_of(names, reach, other, shelf.had() + sent)
                    asked = names if name is None else [name]
                    if len(sent) > 0:
                        met += 1
                        self.assertNotIn("open", [state_of(mended, one) for one in asked])
        self.assertGreater(met, 1000)

    def check_fewer(self, names, reach, issues, shelf, name):
        asked = names if name is None else [name]
        sent = send_for(shelf, name)[0]
        for many in range(len(sent)):
            for some in itertools.combinations(lacking_numbers(shelf.had()), many):
                still = shelf_of(names, reach, issues, shelf.had() + some)
                self.assertIn("open", [state_of(still, one) for one in asked])
        return len(sent)

    def test_with_any_fewer_something_is_still_open_where_dark_issues_set_nothing(self):
        chance = random.Random(28)
        met = set()
        for turn in range(60):
            reach = chance.choice((0, 1, 2))
            had = chance.sample(range(1, 8), chance.choice((1, 2, 3)))
            issues = random_issues(chance, NAMES, 7)
            for dark in dark_numbers(had, reach):
                issues[dark - 1] = []
            shelf = shelf_of(NAMES, reach, issues, had)
            for name in NAMES + (None,):
                met.add(self.check_fewer(NAMES, reach, issues, shelf, name))
        self.assertTrue({0, 1, 2, 3, 4} <= met)


class ReachTest(unittest.TestCase):
    """Point 29."""

    def lacking_in_a_row(self, shelf):
        had = (0,) + shelf.had()
        return max([upper - lower - 1 for lower, upper in zip(had, had[1:])], default=0)

    def test_no_more_lacking_in_a_row_than_the_reach_leaves_nothing_dark_or_open(self):
        met = 0
        for names, issues, reach, readers, book in books():
            for number, ahead, behind in gettings(book):
                if self.lacking_in_a_row(behind) <= reach:
                    met += 1
                    self.assertEqual(dark_numbers(behind.had(), reach), ())
                    self.assertNotIn("open", states(behind))
                    self.assertEqual(len(every_course(behind)), 1)
                    self.assertEqual(send_for(behind), ((), ()))
        self.assertGreater(met, 1000)

    def test_just_as_many_in_a_row_as_the_reach_and_one_more(self):
        for reach in range(11):
            issues = [[("ash", 1)]] * 60
            steps = list(range(reach + 1, 61, reach + 1))
            shelf = shelf_of(NAMES, reach, issues, steps)
            self.assertEqual(dark_numbers(shelf.had(), reach), ())
            self.assertNotIn("open", states(shelf))
            wider = shelf_of(NAMES, reach, issues, range(reach + 2, 61, reach + 2))
            self.assertEqual(dark_numbers(wider.had(), reach), tuple(number - reach - 1 for number in wider.had()))
            self.assertIn("open", states(wider))

    def test_an_issue_not_far_above_the_latest_had_makes_nothing_open_that_was_sure(self):
        met = 0
        for names, issues, reach, readers, book in books():
            for number, ahead, behind in gettings(book):
                if ahead.latest() < number <= ahead.latest() + reach + 1:
                    for was, now in zip(knowledge(ahead), knowledge(behind), strict=True):
                        if was[1] == "sure":
                            met += 1
                            self.assertNotEqual(now[1], "open")
        self.assertGreater(met, 1000)

    def test_an_issue_one_further_above_makes_open_what_it_does_not_set(self):
        issues = [[("ash", 1), ("elm", 1)]] + [[]] * 20
        for reach in range(11):
            near = shelf_of(NAMES, reach, issues, [1, reach + 2])
            self.assertEqual(states(near), ["sure", "sure"])
            far = shelf_of(NAMES, reach, issues, [1, reach + 3])
            self.assertEqual(states(far), ["open", "open"])


class WhatIsToldTest(unittest.TestCase):
    """Point 1."""

    def test_plain_values_and_tuples_alone(self):
        for names, issues, reach, readers, book in mixed_books():
            told = [(book.latest(), book.deeds())]
            told += [book.issue(number) for number in range(1, book.latest() + 1)]
            told += [book.deed(which) for which in range(1, book.deeds() + 1)]
            for reader in range(1, readers + 1):
                told += [every_answer(book.shelf(reader)), history(book, reader, names[0])]
            self.assertTrue(is_told(tuple(told)))

    def test_asking_in_another_order_tells_the_same(self):
        for names, issues, reach, readers, book in mixed_books():
            first = [every_answer(book.shelf(reader)) for reader in range(1, readers + 1)]
            again = [every_answer(book.shelf(reader)) for reader in range(readers, 0, -1)]
            self.assertEqual(again[::-1], first)

    def test_no_clock_chance_or_files(self):
        # The package draws from its own modules alone, and has no name for reading, writing or waiting.
        for path in sorted(PACKAGE.glob("*.py")):
            for node in ast.walk(ast.parse(path.read_text())):
                self.assertNotIsInstance(node, ast.Import)
                if isinstance(node, ast.ImportFrom):
                    self.assertEqual((node.module.split(".")[0], node.level), ("backissues", 0))
                if isinstance(node, ast.Name):
                    self.assertNotIn(node.id, ("open", "input", "print", "hash", "id", "exec", "eval", "__import__"))


if __name__ == "__main__":
    unittest.main()
