"""The office that writes the issues of one bulletin."""

from backissues.errors import BadValue, NameTwice, NotWritten, OfficeFull
from backissues.names import bulletin_names, refuse_unknown_name
from backissues.sizes import MOST_NUMBERS, MOST_VALUE
from backissues.tails import tail_for


def refuse_bad_value(value):
    # The value is left out of the words: Python refuses to write out a number of some thousand digits.
    if value < 0 or value > MOST_VALUE:
        raise BadValue(f"a value is from 0 to {MOST_VALUE}")


def refuse_bad_rows(names, rows):
    set_names = [name for name, value in rows]
    for name in set_names:
        refuse_unknown_name(names, name)
    if len(set(set_names)) != len(set_names):
        raise NameTwice("an issue sets no name twice")
    # A walk of its own: a bad value is due only where all the rows' names are good.
    for name, value in rows:
        refuse_bad_value(value)


def rows_in_order(names, rows):
    values = dict(rows)
    return tuple([(name, values[name]) for name in names if name in values])


def names_of_rows(rows):
    return tuple([name for name, value in rows])


class Office:
    def __init__(self, names, reach):
        self.names = bulletin_names(names, reach)
        self.reach = reach
        self.written = []

    def refuse_writing(self, rows):
        if len(self.written) >= MOST_NUMBERS:
            raise OfficeFull(f"an office writes at most {MOST_NUMBERS} issues")
        refuse_bad_rows(self.names, rows)

    def write(self, rows):
        self.refuse_writing(rows)
        number = len(self.written) + 1
        sets = [names_of_rows(issue[1]) for issue in self.written]
        self.written.append((number, rows_in_order(self.names, rows), tail_for(sets, self.reach)))
        return number

    def latest(self):
        return len(self.written)

    def issue(self, number):
        if number < 1 or number > len(self.written):
            raise NotWritten("no issue of this number is written")
        return self.written[number - 1]
