"""What names and what reach a bulletin may have."""

from backissues.errors import BadNames, BadReach, UnknownName
from backissues.sizes import MOST_NAMES, MOST_REACH


def refuse_bad_names(names):
    if len(names) < 1:
        raise BadNames("a bulletin has at least one name")
    if len(names) > MOST_NAMES:
        raise BadNames(f"a bulletin has at most {MOST_NAMES} names")
    if len(set(names)) != len(names):
        raise BadNames("a bulletin has no name twice")


def refuse_bad_reach(reach):
    # The reach is left out of the words: Python refuses to write out a number of some thousand digits.
    if reach < 0 or reach > MOST_REACH:
        raise BadReach(f"tails reach 0 to {MOST_REACH} numbers back")


def bulletin_names(names, reach):
    refuse_bad_names(names)
    refuse_bad_reach(reach)
    # A tuple of its own, so that a list handed in may change later; its order is the order of names.
    return tuple(names)


def refuse_unknown_name(names, name):
    if name not in names:
        raise UnknownName(f"{name!r} is no name of this bulletin")
