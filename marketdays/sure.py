"""What is sure: of towns and days, and of two towns together."""

from math import lcm

from marketdays.cases import check_two, choices, couples
from marketdays.diaries import check_asked, check_note
from marketdays.lots import check_day, lot, met, next_day, number
from marketdays.turns import has_market, is_kept, number_with, wait_of


def says(diary, town, day):
    """Return "market" or "none" if that is sure of a town and a day, otherwise "open"."""
    check_asked(diary.names(), [town])
    check_day(day)
    return word_on(choices(diary, town), day)


def sure(diary, town):
    """Return the lot of the days on which a town surely has market."""
    return days_with(alone(diary, town), (1,))


def never(diary, town):
    """Return the lot of the days on which a town surely has no market."""
    return days_with(alone(diary, town), (0,))


def open_days(diary, town):
    """Return the lot of the days on which it is not sure whether a town has market."""
    rows = alone(diary, town)
    every = common_turn(rows)
    return lot(every, [day for day in range(every) if not always(rows, day, (0,)) and not always(rows, day, (1,))])


def both(diary, town, other):
    """Return the lot of the days on which two towns surely have market."""
    return days_with(couples(diary, town, other), (2,))


def apart(diary, town, other):
    """Return the lot of the days on which two towns surely do not both have market."""
    return days_with(couples(diary, town, other), (0, 1))


def alike_days(diary, town, other):
    """Return the lot of the days on which surely both of two towns have market, or neither."""
    return days_with(couples(diary, town, other), (0, 2))


def unlike_days(diary, town, other):
    """Return the lot of the days on which surely just one of two towns has market."""
    return days_with(couples(diary, town, other), (1,))


def either(diary, town, other):
    """Return the lot of the days on which surely at least one of two towns has market."""
    return days_with(couples(diary, town, other), (1, 2))


def follows(diary, note):
    """Return "surely" if each case that fits keeps a note, "never" if none does, otherwise "open"."""
    check_note(diary.names(), note)
    if len(note) == 3:
        rows = alone(diary, note[1])
    else:
        rows = couples(diary, note[1], note[2])
    return word_of([is_kept(note, row) for row in rows], "surely", "never")


def latest(diary, town, day):
    """Return the greatest number of days that one may have to wait for market in a town, from a day on."""
    check_asked(diary.names(), [town])
    check_day(day)
    return max([wait_of(choice, day) for choice in choices(diary, town)])


def meeting(diary, town, other):
    """Return "surely" if two towns at some time have market on one day, "never" if they have not, or "open"."""
    return word_of([common_days(row)[1] != [] for row in couples(diary, town, other)], "surely", "never")


def latest_meeting(diary, town, other, day):
    """Return the greatest number of days to wait for market in both towns, from a day on; None if it may never be."""
    check_two(diary, town, other)
    check_day(day)
    found = [next_day(common_days(row), day) for row in couples(diary, town, other)]
    if None in found:
        return None
    return max(found) - day


def markets(diary, town, low, high):
    """Return the least and the greatest number of market days of a town from `low` to `high`, both included."""
    check_asked(diary.names(), [town])
    check_day(low)
    check_day(high)
    found = [number((turn, [first]), low, high) for turn, first in choices(diary, town)]
    return min(found), max(found)


def alone(diary, town):
    """Return the choices of a town in cases that fit, each in a row of its own."""
    return [(choice,) for choice in choices(diary, town)]


def word_on(found, day):
    """Return the word of a day for a town that has one of some choices."""
    return word_of([has_market(choice, day) for choice in found], "market", "none")


def word_of(found, yes, no):
    """Return a word if all that is found is True, another one if all is False, otherwise "open"."""
    if False not in found:
        return yes
    if True not in found:
        return no
    return "open"


def days_with(rows, numbers):
    """Return the lot of the days on which in each row of choices one of these numbers has market."""
    every = common_turn(rows)
    return lot(every, [day for day in range(every) if always(rows, day, numbers)])


def common_turn(rows):
    """Return the least common multiple of all turns in rows of choices."""
    every = 1
    for row in rows:
        for turn, _ in row:
            every = lcm(every, turn)
    return every


def always(rows, day, numbers):
    """Return True if on a day in each row of choices one of these numbers has market, otherwise False."""
    for row in rows:
        if number_with(row, day) not in numbers:
            return False
    return True


def common_days(row):
    """Return the lot of the days on which both choices of a row have market."""
    one, other = row
    return met((one[0], [one[1]]), (other[0], [other[1]]))
