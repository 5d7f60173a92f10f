"""What a reader holds of each name, and whether it is still good."""

from backissues.gaps import dark_numbers_behind, lacking_with_tellers
from backissues.names import refuse_unknown_name

SURE = "sure"
STALE = "stale"
OPEN = "open"


def held_for(shelf, name):
    refuse_unknown_name(shelf.names, name)
    for number in reversed(shelf.had()):
        values = dict(shelf.rows_of(number))
        if name in values:
            return (number, values[name])
    return (0, None)


def names_told_of(shelf, number, teller):
    if teller == 0:
        return ()
    return dict(shelf.tail_of(teller))[number]


def gaps_of(shelf):
    lacking = lacking_with_tellers(shelf.had(), shelf.reach)
    return tuple([(number, teller, names_told_of(shelf, number, teller)) for number, teller in lacking])


def set_again(shelf, name):
    held_from = held_for(shelf, name)[0]
    # A dark number has no names in the gaps, so only seen ones are left here.
    return tuple([(number, teller) for number, teller, names in gaps_of(shelf)
                  if number > held_from and name in names])


def state_of(shelf, name):
    if len(set_again(shelf, name)) > 0:
        return STALE
    held_from = held_for(shelf, name)[0]
    dark_behind = dark_numbers_behind(shelf.had(), shelf.reach, held_from)
    return OPEN if len(dark_behind) > 0 else SURE


def state_and_held(shelf, name):
    return (state_of(shelf, name),) + held_for(shelf, name)


def knowledge(shelf):
    return tuple([(name,) + state_and_held(shelf, name) for name in shelf.names])
