import inspect
import random
import unittest

from backissues.book import Book
from backissues.errors import UnknownName, UnknownReader
from backissues.history import history
from backissues.knowledge import held_for, state_of
from tests.told import EXAMPLE_NAMES, EXAMPLE_ROWS, FAR_BELOW, FAR_BEYOND, NAMES, book_of, is_told, random_issues

STRANGE_READERS = (0, -1, 4, 11) + FAR_BEYOND + FAR_BELOW
STRANGE_NAMES = ("oak", "", "Ash", "as", "ash ")


def rows_behind_each_deed(book, reader, name):
    """A row for every deed, also for those that change nothing."""
    rows = []
    for deed in range(book.deeds() + 1):
        shelf = book.shelf(reader, deed)
        rows.append((deed, state_of(shelf, name)) + held_for(shelf, name))
    return rows


class HistoryTest(unittest.TestCase):
    def check(self, book, reader, name, expected):
        told = history(book, reader, name)
        self.assertEqual(told, expected)
        self.assertTrue(is_told(told))
        self.assertEqual(history(book, reader, name), expected)

    def test_arguments(self):
        self.assertEqual(list(inspect.signature(history).parameters), ["book", "reader", "name"])

    def test_no_deed(self):
        for readers in (1, 10):
            for reader in (1, readers):
                self.check(Book(NAMES, 0, readers), reader, "ash", ((0, "sure", 0, None),))

    def test_a_name_never_set(self):
        book = book_of(NAMES, 1, 1, [[("elm", 1)], (1, 1), [], (1, 2)])
        self.check(book, 1, "ash", ((0, "sure", 0, None),))

    def test_a_name_set_and_got(self):
        book = book_of(NAMES, 1, 1, [[("ash", 4)], (1, 1), [("ash", 5)], (1, 2)])
        self.check(book, 1, "ash", ((0, "sure", 0, None), (2, "sure", 1, 4), (4, "sure", 2, 5)))
        self.check(book, 1, "elm", ((0, "sure", 0, None),))

    def test_a_value_of_0_and_the_same_value_from_a_later_number(self):
        book = book_of(NAMES, 1, 1, [[("ash", 0)], [("ash", 0)], (1, 1), (1, 2)])
        self.check(book, 1, "ash", ((0, "sure", 0, None), (3, "sure", 1, 0), (4, "sure", 2, 0)))

    def test_writings_deeds_of_others_and_gettings_anew_change_nothing(self):
        deeds = [[("ash", 4)], (2, 1), (1, 1), (1, 1), [("ash", 5)], (2, 2), (3, 2), (1, 1), [], (2, 3)]
        book = book_of(NAMES, 1, 3, deeds)
        self.check(book, 1, "ash", ((0, "sure", 0, None), (3, "sure", 1, 4)))
        self.check(book, 2, "ash", ((0, "sure", 0, None), (2, "sure", 1, 4), (6, "sure", 2, 5)))
        self.check(book, 3, "ash", ((0, "sure", 0, None), (7, "sure", 2, 5)))

    def test_the_example(self):
        book = book_of(EXAMPLE_NAMES, 1, 2, list(EXAMPLE_ROWS) + [(1, 1), (1, 5), (1, 3), (2, 1), (2, 4), (2, 3)])
        self.check(book, 1, "ash", (
            (0, "sure", 0, None), (6, "sure", 1, 5), (7, "open", 1, 5), (8, "sure", 3, 6)))
        self.check(book, 1, "elm", ((0, "sure", 0, None), (7, "sure", 5, 9)))
        self.check(book, 2, "ash", (
            (0, "sure", 0, None), (9, "sure", 1, 5), (10, "stale", 1, 5), (11, "sure", 3, 6)))
        self.check(book, 2, "elm", ((0, "sure", 0, None), (10, "open", 0, None), (11, "stale", 0, None)))

    def test_open_then_stale_then_mended(self):
        # With 1 and 5 had 2 and 3 are dark; then 3 tells that 2 sets ash again, and 2 brings it.
        issues = [[("ash", 1)], [("ash", 2)], [], [], []]
        book = book_of(NAMES, 1, 1, issues + [(1, 1), (1, 5), (1, 3), (1, 2)])
        self.check(book, 1, "ash", (
            (0, "sure", 0, None), (6, "sure", 1, 1), (7, "open", 1, 1), (8, "stale", 1, 1), (9, "sure", 2, 2)))

    def test_mended_without_another_value(self):
        issues = [[("ash", 1)], [], []]
        book = book_of(NAMES, 0, 1, issues + [(1, 1), (1, 3), (1, 2)])
        self.check(book, 1, "ash", (
            (0, "sure", 0, None), (4, "sure", 1, 1), (5, "open", 1, 1), (6, "sure", 1, 1)))

    def test_an_early_issue_held_though_still_open(self):
        issues = [[("ash", 1)], [("ash", 2)], [], []]
        book = book_of(NAMES, 0, 1, issues + [(1, 4), (1, 1), (1, 2)])
        self.check(book, 1, "ash", (
            (0, "sure", 0, None), (5, "open", 0, None), (6, "open", 1, 1), (7, "open", 2, 2)))

    def test_unknown_reader_then_unknown_name(self):
        for deeds in ([], list(EXAMPLE_ROWS) + [(1, 1), (1, 5)]):
            book = book_of(EXAMPLE_NAMES, 1, 3, deeds)
            for reader in STRANGE_READERS:
                for name in EXAMPLE_NAMES + STRANGE_NAMES:
                    with self.assertRaises(UnknownReader):
                        history(book, reader, name)
            for name in STRANGE_NAMES:
                for reader in (1, 2, 3):
                    with self.assertRaises(UnknownName):
                        history(book, reader, name)

    def test_asking_changes_nothing_and_later_deeds_go_on(self):
        book = book_of(EXAMPLE_NAMES, 1, 1, list(EXAMPLE_ROWS) + [(1, 1), (1, 5)])
        first = history(book, 1, "ash")
        self.assertEqual((book.deeds(), book.shelf(1).had()), (7, (1, 5)))
        self.assertIs(book.deliver(1, 3), True)
        self.check(book, 1, "ash", first + ((8, "sure", 3, 6),))
        self.assertEqual(len(first), 3)

    def test_a_full_book(self):
        book = book_of(NAMES, 1, 1, [[("ash", 1)]] + [(1, 1)] * 398 + [[("ash", 2)]])
        self.check(book, 1, "ash", ((0, "sure", 0, None), (2, "sure", 1, 1)))
        issues = [[("ash", number)] for number in range(60)]
        book = book_of(NAMES, 1, 1, issues + [(1, 1)] * 339 + [(1, 60)])
        self.check(book, 1, "ash", ((0, "sure", 0, None), (61, "sure", 1, 0), (400, "sure", 60, 59)))

    def test_against_a_row_for_every_deed(self):
        chance = random.Random(4)
        met = set()
        for turn in range(60):
            issues = random_issues(chance, NAMES, 8)
            gettings = [(chance.randint(1, 2), chance.randint(1, 8)) for step in range(20)]
            book = book_of(NAMES, chance.choice((0, 1, 2)), 2, issues + gettings)
            for reader in (1, 2):
                for name in NAMES:
                    rows = rows_behind_each_deed(book, reader, name)
                    expected = rows[:1] + [row for ahead, row in zip(rows, rows[1:]) if row[1:] != ahead[1:]]
                    self.check(book, reader, name, tuple(expected))
                    met.update(row[1] for row in expected)
        self.assertEqual(met, {"sure", "stale", "open"})


if __name__ == "__main__":
    unittest.main()
