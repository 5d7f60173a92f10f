"""Which numbers a reader lacks, and which of those the tails still tell of."""


def lacking_numbers(had):
    latest = max(had, default=0)
    return tuple([number for number in range(1, latest + 1) if number not in had])


def reached_by(number, reach):
    return tuple(range(max(1, number - reach), number + 1))


def teller_of(had, number, reach):
    tellers = [above for above in had if above > number and above - reach <= number]
    return min(tellers, default=0)


def lacking_with_tellers(had, reach):
    return tuple([(number, teller_of(had, number, reach)) for number in lacking_numbers(had)])


def seen_numbers(had, reach):
    return tuple([(number, teller) for number, teller in lacking_with_tellers(had, reach) if teller != 0])


def dark_numbers(had, reach):
    return tuple([number for number, teller in lacking_with_tellers(had, reach) if teller == 0])


def dark_numbers_behind(had, reach, behind):
    return tuple([number for number in dark_numbers(had, reach) if number > behind])
