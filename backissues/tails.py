"""What an issue tells of the issues ahead of it."""

from backissues.gaps import reached_by


def tail_for(sets, reach):
    number = len(sets) + 1
    ahead = reached_by(number, reach)[:-1]
    return tuple([(earlier, tuple(sets[earlier - 1])) for earlier in reversed(ahead)])
