"""Which back issues to send for."""

from backissues.gaps import dark_numbers_behind
from backissues.knowledge import OPEN, held_for, state_of


def fewest_numbers(had, reach, behind):
    fewest = []
    apart = []
    for dark in dark_numbers_behind(had, reach, behind):
        if len(fewest) == 0 or dark > fewest[-1]:
            # No had number reaches a dark one, so whatever could reach it is lacking;
            # the farthest of these leaves the fewest dark numbers above itself.
            fewest.append(dark + reach)
            apart.append(dark)
    return (tuple(fewest), tuple(apart))


def send_for(shelf, name=None):
    asked = shelf.names if name is None else (name,)
    held_from = [held_for(shelf, one)[0] for one in asked if state_of(shelf, one) == OPEN]
    if len(held_from) == 0:
        return ((), ())
    return fewest_numbers(shelf.had(), shelf.reach, min(held_from))
