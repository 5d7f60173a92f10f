"""The courses that the issues may have taken, as far as a shelf can tell."""

from backissues.errors import TooManyCourses
from backissues.gaps import dark_numbers, dark_numbers_behind
from backissues.knowledge import OPEN, STALE, gaps_of, held_for, state_of
from backissues.office import names_of_rows
from backissues.sizes import MOST_COURSES


def known_sets(shelf):
    sets = {}
    for number in shelf.had():
        sets[number] = names_of_rows(shelf.rows_of(number))
    for number, teller, names in gaps_of(shelf):
        # None for a dark number: () would say that it is known to set nothing.
        sets[number] = None if teller == 0 else names
    return tuple([sets[number] for number in sorted(sets)])


def is_choice(names, chosen):
    return chosen == tuple([name for name in names if name in chosen])


def may_stand(names, known, chosen):
    return is_choice(names, chosen) if known is None else chosen == known


def fits(shelf, course):
    sets = known_sets(shelf)
    if len(course) != len(sets):
        return False
    return all([may_stand(shelf.names, known, chosen) for known, chosen in zip(sets, course)])


def two_to_the(power):
    product = 1
    for step in range(power):
        product = product * 2
    return product


def course_count(shelf):
    dark = dark_numbers(shelf.had(), shelf.reach)
    return two_to_the(len(dark) * len(shelf.names))


def again_count(shelf, name):
    state = state_of(shelf, name)
    count = course_count(shelf)
    if state == STALE:
        return count
    held_from = held_for(shelf, name)[0]
    dark_behind = dark_numbers_behind(shelf.had(), shelf.reach, held_from)
    # Each dark number behind leaves the name out in half of the courses that are left.
    not_again = count // two_to_the(len(dark_behind))
    return count - not_again


def every_choice(names):
    choices = [()]
    for name in names:
        choices = choices + [choice + (name,) for choice in choices]
    return tuple(choices)


def one_number_further(courses, choices):
    further = []
    for choice in choices:
        further.extend([course + (choice,) for course in courses])
    return tuple(further)


def every_course(shelf):
    if course_count(shelf) > MOST_COURSES:
        raise TooManyCourses(f"at most {MOST_COURSES} courses are told")
    courses = ((),)
    for known in known_sets(shelf):
        choices = every_choice(shelf.names) if known is None else (known,)
        courses = one_number_further(courses, choices)
    return courses


def two_courses(shelf, name):
    if state_of(shelf, name) != OPEN:
        return None
    not_again = tuple([() if known is None else known for known in known_sets(shelf)])
    # The name is open, so some dark number is behind the one held from: then the latest dark one is.
    latest_dark = max(dark_numbers(shelf.had(), shelf.reach))
    again = not_again[:latest_dark - 1] + ((name,),) + not_again[latest_dark:]
    return (not_again, again)
