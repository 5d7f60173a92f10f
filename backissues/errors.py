"""The refusals: one class for each, all straight under BackError."""


class BackError(ValueError):
    pass


class BadNames(BackError):
    pass


class BadReach(BackError):
    pass


class BadReaders(BackError):
    pass


class OfficeFull(BackError):
    pass


class UnknownName(BackError):
    pass


class NameTwice(BackError):
    pass


class BadValue(BackError):
    pass


class NotWritten(BackError):
    pass


class UnknownReader(BackError):
    pass


class BookFull(BackError):
    pass


class NoSuchDeed(BackError):
    pass


class TooManyCourses(BackError):
    pass
