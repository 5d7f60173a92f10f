"""The book: an office, its readers, and every deed in its order."""

from backissues.errors import BadReaders, BookFull, NoSuchDeed, UnknownReader
from backissues.office import Office
from backissues.shelf import Shelf
from backissues.sizes import MOST_DEEDS, MOST_READERS

WRITE = "write"
DELIVER = "deliver"


def refuse_bad_readers(readers):
    # The number is left out of the words: Python refuses to write out one of some thousand digits.
    if readers < 1 or readers > MOST_READERS:
        raise BadReaders(f"a book has 1 to {MOST_READERS} readers")


class Book:
    def __init__(self, names, reach, readers):
        self.office = Office(names, reach)
        refuse_bad_readers(readers)
        self.readers = readers
        self.done = []

    def refuse_unknown_reader(self, reader):
        if reader < 1 or reader > self.readers:
            raise UnknownReader("the book has no reader of this number")

    def refuse_further_deed(self):
        if len(self.done) >= MOST_DEEDS:
            raise BookFull(f"a book has at most {MOST_DEEDS} deeds")

    def write(self, rows):
        # The office's refusals are asked for ahead of the writing: a full book comes behind them all.
        self.office.refuse_writing(rows)
        self.refuse_further_deed()
        number = self.office.write(rows)
        self.done.append((WRITE, number))
        return number

    def deliver(self, reader, number):
        # Asked for its refusal alone.
        self.office.issue(number)
        self.refuse_unknown_reader(reader)
        self.refuse_further_deed()
        getting = (DELIVER, reader, number)
        lacked = getting not in self.done
        self.done.append(getting)
        return lacked

    def latest(self):
        return self.office.latest()

    def issue(self, number):
        return self.office.issue(number)

    def deeds(self):
        return len(self.done)

    def deed(self, which):
        if which < 1 or which > len(self.done):
            raise NoSuchDeed("no deed of this number was done")
        return self.done[which - 1]

    def shelf(self, reader, deed=None):
        behind = len(self.done) if deed is None else deed
        if behind < 0 or behind > len(self.done):
            raise NoSuchDeed("no deed of this number was done")
        self.refuse_unknown_reader(reader)
        told = Shelf(self.office.names, self.office.reach)
        for past in self.done[:behind]:
            if past[:2] == (DELIVER, reader):
                told.put(self.office.issue(past[2]))
        return told
