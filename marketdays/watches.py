"""Watches: what watching a town on some days in a row tells of its choice."""

from itertools import combinations
from math import lcm

from marketdays.cases import choices
from marketdays.diaries import check_asked
from marketdays.lots import check_day
from marketdays.turns import has_market


def left_behind(diary, town, day, seen):
    """Return the ascending list of the choices of a town that show what is seen on days in a row."""
    check_asked(diary.names(), [town])
    check_day(day)
    return [choice for choice in choices(diary, town) if shown_by(choice, day, len(seen)) == seen]


def watch(diary, town, day):
    """Return the least number of days in a row, from a day on, by which a town's choice is surely told."""
    check_asked(diary.names(), [town])
    check_day(day)
    found = choices(diary, town)
    many = 0
    while len({tuple(shown_by(choice, day, many)) for choice in found}) < len(found):
        many += 1
    return many


def longest_watch(diary, town):
    """Return the greatest number of days that have to be watched, from any day on."""
    told = doubt(diary, town)
    if told is None:
        return 0
    return told[3] + 1


def doubt(diary, town):
    """Return (choice, choice, day, many) of two choices that do the same on most days in a row; None if one is left."""
    found = choices(diary, town)
    rows = [(one, other) + longest_alike(one, other) for one, other in combinations(found, 2)]
    return max(rows, key=lambda row: row[3], default=None)


def judge_doubt(diary, town, told):
    """Return True if two choices show that so many days in a row from a day on do not suffice, otherwise False."""
    found = choices(diary, town)
    if told is None:
        return False
    one, other, day, many = told
    if one not in found or other not in found or one == other or day < 0 or many < 0:
        return False
    # Unlike choices differ on one of so many days in a row.
    every = lcm(one[0], other[0])
    return many < every and shown_by(one, day, many) == shown_by(other, day, many)


def shown_by(choice, day, many):
    """Return the list of what so many days in a row, from a day on, show by a choice."""
    return [has_market(choice, day + passed) for passed in range(many)]


def longest_alike(one, other):
    """Return the tuple (day, number) of the first longest stretch of days on which two unlike choices do the same."""
    start, best = 0, (0, 0)
    # What they do comes again, so twice the time has each stretch from its begin to its end.
    for day in range(2 * lcm(one[0], other[0])):
        if has_market(one, day) != has_market(other, day):
            if day - start > best[1]:
                best = start, day - start
            start = day + 1
    return best
