"""What one reader has."""

from backissues.names import bulletin_names


class Shelf:
    def __init__(self, names, reach):
        self.names = bulletin_names(names, reach)
        self.reach = reach
        self.issues = {}

    def put(self, issue):
        number = issue[0]
        if number in self.issues:
            return False
        self.issues[number] = issue
        return True

    def had(self):
        return tuple(sorted(self.issues))

    def latest(self):
        return max(self.had(), default=0)

    def rows_of(self, number):
        return self.issues[number][1]

    def tail_of(self, number):
        return self.issues[number][2]
