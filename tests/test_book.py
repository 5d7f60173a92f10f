import inspect
import unittest

from backissues.book import Book
from backissues.errors import BadNames, BadReach, BadReaders, BadValue, BookFull, NameTwice, NoSuchDeed
from backissues.errors import NotWritten, OfficeFull, UnknownName, UnknownReader
from backissues.knowledge import knowledge
from backissues.shelf import Shelf
from tests.told import EXAMPLE_NAMES, EXAMPLE_ROWS, FAR_BELOW, FAR_BEYOND, MadeOfNamesAndReach, NAMES, TWELVE
from tests.told import book_of, every_answer, is_told, office_of


def example_book(gettings=()):
    return book_of(EXAMPLE_NAMES, 1, 3, list(EXAMPLE_ROWS) + list(gettings))


def book_with_deeds(issues, many):
    """A book of two readers in which these issues are written, and issue 1 delivered until there are so many deeds."""
    return book_of(NAMES, 1, 2, list(issues) + [(1, 1)] * (many - len(issues)))


def every_answer_of(book, readers):
    issues = tuple(book.issue(number) for number in range(1, book.latest() + 1))
    deeds = tuple(book.deed(which) for which in range(1, book.deeds() + 1))
    shelves = tuple(every_answer(book.shelf(reader)) for reader in range(1, readers + 1))
    return (book.latest(), book.deeds(), issues, deeds, shelves)


class InterfaceTest(unittest.TestCase):
    def test_arguments(self):
        expected = {
            "write": ["self", "rows"],
            "deliver": ["self", "reader", "number"],
            "latest": ["self"],
            "issue": ["self", "number"],
            "deeds": ["self"],
            "deed": ["self", "which"],
            "shelf": ["self", "reader", "deed"],
        }
        for name, arguments in expected.items():
            with self.subTest(name):
                self.assertEqual(list(inspect.signature(getattr(Book, name)).parameters), arguments)
        self.assertEqual(list(inspect.signature(Book).parameters), ["names", "reach", "readers"])
        self.assertIsNone(inspect.signature(Book.shelf).parameters["deed"].default)


class MadeTest(MadeOfNamesAndReach, unittest.TestCase):
    def kind(self, names, reach):
        return Book(names, reach, 3)

    def test_1_to_10_readers_who_have_nothing(self):
        for readers in range(1, 11):
            book = Book(NAMES, 1, readers)
            self.assertEqual((book.latest(), book.deeds()), (0, 0))
            for reader in range(1, readers + 1):
                self.assertEqual(book.shelf(reader).had(), ())
            for reader in (0, readers + 1):
                with self.assertRaises(UnknownReader):
                    book.shelf(reader)

    def test_too_few_or_too_many_readers(self):
        for readers in (0, -1, -10, 11, 12) + FAR_BEYOND + FAR_BELOW:
            for names in (["ash"], tuple(TWELVE)):
                for reach in (0, 10):
                    with self.assertRaises(BadReaders):
                        Book(names, reach, readers)

    def test_bad_names_then_bad_reach_then_bad_readers(self):
        for readers in (1, 0, 11) + FAR_BEYOND + FAR_BELOW:
            for reach in (-1, 11) + FAR_BEYOND + FAR_BELOW:
                with self.assertRaises(BadReach):
                    Book(["ash"], reach, readers)
            for names in ([], TWELVE + ["ivy"], ["ash", "elm", "ash"]):
                for reach in (0, 10, -1, 11):
                    with self.assertRaises(BadNames):
                        Book(names, reach, readers)


class WriteTest(unittest.TestCase):
    def check_refused(self, error, book, rows):
        ahead = every_answer_of(book, 2)
        for handed in (list(rows), tuple(rows)):
            with self.assertRaises(error):
                book.write(handed)
        self.assertEqual(every_answer_of(book, 2), ahead)

    def test_the_numbers_in_their_order(self):
        book = Book(EXAMPLE_NAMES, 1, 2)
        for number, rows in enumerate(EXAMPLE_ROWS, start=1):
            self.assertEqual(book.write(rows), number)
            self.assertEqual(book.latest(), number)
            self.assertEqual(book.deeds(), number)
            self.assertEqual(book.deed(number), ("write", number))

    def test_issues_as_an_office_tells_them(self):
        for reach in (0, 1, 2, 10):
            book = book_of(EXAMPLE_NAMES, reach, 1, EXAMPLE_ROWS)
            office = office_of(EXAMPLE_NAMES, reach, EXAMPLE_ROWS)
            for number in range(1, 6):
                self.assertEqual(book.issue(number), office.issue(number))
                self.assertTrue(is_told(book.issue(number)))
        self.assertEqual(example_book().issue(5), (5, (("elm", 9),), ((4, ()),)))

    def test_rows_in_any_order_as_lists_or_tuples(self):
        for rows in ([("ash", 1), ("elm", 2)], ((["elm", 2]), ["ash", 1]), [["ash", 1], ("elm", 2)]):
            book = Book(NAMES, 1, 1)
            self.assertEqual(book.write(rows), 1)
            self.assertEqual(book.issue(1), (1, (("elm", 2), ("ash", 1)), ()))

    def test_values_at_their_edges(self):
        book = Book(NAMES, 1, 1)
        book.write([("ash", 0), ("elm", 1000000)])
        self.assertEqual(book.issue(1)[1], (("elm", 1000000), ("ash", 0)))

    def test_issue_that_is_not_written(self):
        for book, latest in ((Book(NAMES, 1, 2), 0), (example_book(), 5)):
            for number in (0, -1, latest + 1, 61) + FAR_BEYOND + FAR_BELOW:
                with self.assertRaises(NotWritten):
                    book.issue(number)

    def test_unknown_name(self):
        book = Book(NAMES, 1, 2)
        for name in ("oak", "", "Ash", "ash "):
            self.check_refused(UnknownName, book, [(name, 1)])
            self.check_refused(UnknownName, book, [("ash", 1), ("ash", -1), (name, 1)])

    def test_name_twice(self):
        book = Book(NAMES, 1, 2)
        self.check_refused(NameTwice, book, [("ash", 1), ("ash", 1)])
        self.check_refused(NameTwice, book, [("ash", -1), ("elm", 1), ("ash", 1)])

    def test_bad_value(self):
        book = Book(NAMES, 1, 2)
        for value in (-1, 1000001) + FAR_BEYOND + FAR_BELOW:
            self.check_refused(BadValue, book, [("ash", value)])
            self.check_refused(BadValue, book, [("ash", 1), ("elm", value)])

    def test_60_issues_then_office_full_ahead_of_all_else(self):
        book = book_of(NAMES, 1, 2, [[]] * 60)
        self.assertEqual(book.latest(), 60)
        for rows in ([], [("ash", 1)], [("oak", 1)], [("ash", 1), ("ash", 1)], [("ash", -1)]):
            self.check_refused(OfficeFull, book, rows)
        self.assertIs(book.deliver(1, 60), True)

    def test_a_refused_writing_takes_no_number(self):
        book = Book(NAMES, 1, 2)
        self.check_refused(BadValue, book, [("ash", -1)])
        self.assertEqual(book.write([("ash", 1)]), 1)
        self.assertEqual(book.deed(1), ("write", 1))

    def test_what_is_done_to_the_rows_later_changes_nothing(self):
        names = ["elm", "ash"]
        book = Book(names, 1, 1)
        other = Book(names, 1, 1)
        names.append("oak")
        names[0] = "fir"
        row = ["elm", 3]
        rows = [row]
        book.write(rows)
        row[1] = 4
        rows.append(["ash", 1])
        self.assertEqual(book.issue(1), (1, (("elm", 3),), ()))
        self.assertEqual(rows, [["elm", 4], ["ash", 1]])
        self.assertEqual((other.latest(), other.deeds()), (0, 0))
        with self.assertRaises(UnknownName):
            book.write([("oak", 1)])


class DeliverTest(unittest.TestCase):
    def check_refused(self, error, book, reader, number):
        ahead = every_answer_of(book, 2)
        with self.assertRaises(error):
            book.deliver(reader, number)
        self.assertEqual(every_answer_of(book, 2), ahead)

    def test_true_where_the_reader_lacked_it_else_false(self):
        book = example_book()
        for turn, (reader, number, lacked) in enumerate((
                (1, 5, True), (1, 5, False), (2, 5, True), (1, 1, True), (3, 1, True), (2, 5, False), (1, 5, False),
                (3, 3, True), (1, 1, False), (2, 1, True))):
            self.assertIs(book.deliver(reader, number), lacked)
            self.assertEqual(book.deeds(), 6 + turn)
            self.assertEqual(book.deed(6 + turn), ("deliver", reader, number))
        self.assertEqual([book.shelf(reader).had() for reader in (1, 2, 3)], [(1, 5), (1, 5), (1, 3)])

    def test_the_issue_written_last_and_the_last_reader(self):
        book = Book(NAMES, 1, 10)
        for number in range(1, 61):
            book.write([])
            self.assertIs(book.deliver(10, number), True)
        self.assertEqual(book.shelf(10).had(), tuple(range(1, 61)))
        self.assertEqual(book.shelf(1).had(), ())

    def test_not_written(self):
        for latest in (0, 1, 5):
            book = book_of(NAMES, 1, 2, [[]] * latest)
            for number in (0, -1, latest + 1, 61) + FAR_BEYOND + FAR_BELOW:
                self.check_refused(NotWritten, book, 1, number)

    def test_unknown_reader(self):
        book = book_of(NAMES, 1, 2, [[]] * 3)
        for reader in (0, -1, 3, 10, 11) + FAR_BEYOND + FAR_BELOW:
            for number in (1, 3):
                self.check_refused(UnknownReader, book, reader, number)

    def test_not_written_ahead_of_unknown_reader(self):
        for latest in (0, 3):
            book = book_of(NAMES, 1, 2, [[]] * latest)
            for reader in (0, -1, 3) + FAR_BEYOND + FAR_BELOW:
                for number in (0, -1, latest + 1) + FAR_BEYOND + FAR_BELOW:
                    self.check_refused(NotWritten, book, reader, number)

    def test_a_refused_getting_is_no_getting(self):
        book = book_of(NAMES, 1, 2, [[]])
        self.check_refused(NotWritten, book, 1, 2)
        book.write([])
        self.assertIs(book.deliver(1, 2), True)
        self.assertEqual(book.deeds(), 3)


class BookFullTest(unittest.TestCase):
    def check_refused(self, error, book, act):
        ahead = every_answer_of(book, 2)
        for turn in range(2):
            with self.assertRaises(error):
                act()
        self.assertEqual(every_answer_of(book, 2), ahead)

    def test_deed_400_is_done_and_deed_401_is_not(self):
        book = book_with_deeds([[("ash", 1)]], 399)
        self.assertIs(book.deliver(2, 1), True)
        self.assertEqual(book.deeds(), 400)
        self.assertEqual(book.deed(400), ("deliver", 2, 1))
        self.check_refused(BookFull, book, lambda: book.deliver(1, 1))
        self.check_refused(BookFull, book, lambda: book.deliver(2, 1))
        self.check_refused(BookFull, book, lambda: book.write([]))
        self.check_refused(BookFull, book, lambda: book.write([("elm", 0), ("ash", 1000000)]))
        book = book_with_deeds([[("ash", 1)]], 399)
        self.assertEqual(book.write([]), 2)
        self.check_refused(BookFull, book, lambda: book.deliver(1, 2))
        self.check_refused(BookFull, book, lambda: book.write([]))

    def test_behind_every_other_refusal(self):
        book = book_with_deeds([[]] * 3, 400)
        self.check_refused(UnknownName, book, lambda: book.write([("oak", 1)]))
        self.check_refused(NameTwice, book, lambda: book.write([("ash", 1), ("ash", 2)]))
        for value in (-1, 1000001) + FAR_BEYOND + FAR_BELOW:
            self.check_refused(BadValue, book, lambda: book.write([("ash", value)]))
        for number in (0, -1, 4) + FAR_BEYOND + FAR_BELOW:
            self.check_refused(NotWritten, book, lambda: book.deliver(1, number))
            self.check_refused(NotWritten, book, lambda: book.deliver(3, number))
        for reader in (0, -1, 3) + FAR_BEYOND + FAR_BELOW:
            self.check_refused(UnknownReader, book, lambda: book.deliver(reader, 3))
        self.check_refused(BookFull, book, lambda: book.write([]))

    def test_behind_a_full_office(self):
        book = book_with_deeds([[]] * 60, 400)
        for rows in ([], [("oak", 1)], [("ash", 1), ("ash", 1)], [("ash", -1)]):
            self.check_refused(OfficeFull, book, lambda: book.write(rows))
        self.check_refused(BookFull, book, lambda: book.deliver(2, 60))

    def test_refused_deeds_are_not_counted(self):
        book = book_with_deeds([[]], 398)
        for turn in range(5):
            self.check_refused(NotWritten, book, lambda: book.deliver(1, 2))
            self.check_refused(UnknownReader, book, lambda: book.deliver(3, 1))
            self.check_refused(BadValue, book, lambda: book.write([("ash", -1)]))
        book.write([])
        self.assertIs(book.deliver(1, 2), True)
        self.assertEqual(book.deeds(), 400)

    def test_a_full_book_still_answers(self):
        book = book_with_deeds([[("ash", 4)]], 400)
        self.assertEqual(book.latest(), 1)
        self.assertEqual(book.issue(1), (1, (("ash", 4),), ()))
        self.assertEqual(book.shelf(1, 400).had(), (1,))
        self.assertEqual(book.shelf(2).had(), ())


class DeedTest(unittest.TestCase):
    def test_in_their_order(self):
        book = book_of(NAMES, 1, 2, [[], (2, 1), [("ash", 1)], (1, 2), (2, 1), (1, 1)])
        self.assertEqual(book.deeds(), 6)
        told = tuple(book.deed(which) for which in range(1, 7))
        self.assertEqual(told, (
            ("write", 1), ("deliver", 2, 1), ("write", 2), ("deliver", 1, 2), ("deliver", 2, 1), ("deliver", 1, 1)))
        self.assertTrue(is_told(told))

    def test_no_such_deed(self):
        for deeds in ([], [[]], [[], (1, 1), (2, 1), (1, 1)]):
            book = book_of(NAMES, 1, 2, deeds)
            for which in (0, -1, -len(deeds), len(deeds) + 1, 401) + FAR_BEYOND + FAR_BELOW:
                with self.assertRaises(NoSuchDeed):
                    book.deed(which)

    def test_no_deed_401(self):
        book = book_with_deeds([[]], 400)
        self.assertEqual(book.deed(400), ("deliver", 1, 1))
        with self.assertRaises(NoSuchDeed):
            book.deed(401)


class ShelfTest(unittest.TestCase):
    def test_behind_each_deed(self):
        gettings = [(1, 5), (2, 3), (1, 1), (1, 5), (3, 4), (1, 3)]
        book = example_book(gettings)
        for reader in (1, 2, 3):
            for deed in range(book.deeds() + 1):
                got = {number for who, number in gettings[:max(0, deed - 5)] if who == reader}
                shelf = book.shelf(reader, deed)
                self.assertIsInstance(shelf, Shelf)
                self.assertEqual(shelf.had(), tuple(sorted(got)))

    def test_without_a_deed_behind_all(self):
        book = example_book([(1, 5), (1, 1)])
        for shelf in (book.shelf(1), book.shelf(1, None), book.shelf(1, deed=None), book.shelf(1, 7)):
            self.assertEqual(knowledge(shelf), (("ash", "open", 1, 5), ("elm", "sure", 5, 9)))
            self.assertEqual(shelf.latest(), 5)

    def test_behind_deed_0_nothing(self):
        for book in (Book(NAMES, 0, 3), example_book([(1, 5), (2, 5)])):
            for reader in (1, 2, 3):
                self.assertEqual(book.shelf(reader, 0).had(), ())
                self.assertEqual(book.shelf(reader, 0).latest(), 0)
        self.assertEqual(Book(NAMES, 0, 1).shelf(1).had(), ())

    def test_answers_as_a_shelf_of_ones_own(self):
        book = example_book([(2, 4), (2, 1), (1, 2)])
        own = Shelf(EXAMPLE_NAMES, 1)
        own.put(book.issue(4))
        own.put(book.issue(1))
        self.assertEqual(every_answer(book.shelf(2)), every_answer(own))

    def test_no_such_deed(self):
        for gettings in ([], [(1, 5), (1, 1)]):
            book = example_book(gettings)
            many = 5 + len(gettings)
            for deed in (-1, -many, many + 1, 401) + FAR_BEYOND + FAR_BELOW:
                with self.assertRaises(NoSuchDeed):
                    book.shelf(1, deed)
        with self.assertRaises(NoSuchDeed):
            Book(NAMES, 1, 1).shelf(1, 1)

    def test_unknown_reader(self):
        book = example_book([(1, 5)])
        for reader in (0, -1, 4, 10) + FAR_BEYOND + FAR_BELOW:
            for deed in (None, 0, 3, 6):
                with self.assertRaises(UnknownReader):
                    book.shelf(reader, deed)

    def test_no_such_deed_ahead_of_unknown_reader(self):
        book = example_book([(1, 5)])
        for reader in (0, -1, 4) + FAR_BEYOND + FAR_BELOW:
            for deed in (-1, 7) + FAR_BEYOND + FAR_BELOW:
                with self.assertRaises(NoSuchDeed):
                    book.shelf(reader, deed)

    def test_what_is_put_into_it_changes_nothing_in_the_book(self):
        book = example_book([(1, 5)])
        ahead = every_answer_of(book, 3)
        shelf = book.shelf(1)
        self.assertIs(shelf.put(book.issue(5)), False)
        self.assertIs(shelf.put(book.issue(1)), True)
        self.assertEqual(shelf.had(), (1, 5))
        self.assertEqual(every_answer_of(book, 3), ahead)
        self.assertEqual(book.shelf(1).had(), (5,))
        self.assertIs(book.deliver(1, 1), True)

    def test_what_is_done_in_the_book_later_changes_nothing_in_it(self):
        book = example_book([(1, 5)])
        shelf = book.shelf(1)
        early = book.shelf(1, 0)
        ahead = every_answer(shelf)
        book.write([("ash", 8)])
        book.deliver(1, 6)
        book.deliver(1, 1)
        self.assertEqual(every_answer(shelf), ahead)
        self.assertEqual(early.had(), ())
        self.assertEqual(book.shelf(1).had(), (1, 5, 6))

    def test_two_shelves_told_are_apart(self):
        book = example_book([(1, 5)])
        for one, other in ((book.shelf(1), book.shelf(1)), (book.shelf(1, 0), book.shelf(2, 0))):
            had = other.had()
            one.put(book.issue(2))
            self.assertEqual(other.had(), had)
            self.assertNotEqual(one.had(), had)


class ApartTest(unittest.TestCase):
    def test_two_books_made_of_the_same_list(self):
        names = ["elm", "ash"]
        one = Book(names, 1, 2)
        other = Book(names, 1, 2)
        empty = every_answer_of(other, 2)
        one.write([("ash", 3)])
        one.deliver(1, 1)
        self.assertEqual(every_answer_of(other, 2), empty)
        other.write([("elm", 4)])
        self.assertEqual(one.issue(1), (1, (("ash", 3),), ()))
        self.assertEqual(other.issue(1), (1, (("elm", 4),), ()))
        self.assertEqual((one.deeds(), other.deeds()), (2, 1))
        self.assertEqual((one.shelf(1).had(), other.shelf(1).had()), ((1,), ()))
        self.assertEqual(names, ["elm", "ash"])

    def test_asking_changes_nothing(self):
        book = example_book([(1, 5), (2, 1)])
        first = every_answer_of(book, 3)
        self.assertEqual(every_answer_of(book, 3), first)
        self.assertTrue(is_told(first))


if __name__ == "__main__":
    unittest.main()
