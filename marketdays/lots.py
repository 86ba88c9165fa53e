"""Lots of days: tuples (every, rests) of the days that leave one of the rests by `every`."""

from math import gcd, lcm

from marketdays.errors import InvalidDay, InvalidLot


def lot(every, rests):
    """Return the told lot of the days that leave one of some rests, which may be any integers."""
    if every < 1:
        raise InvalidLot((every, list(rests)))
    told = sorted({rest % every for rest in rests})
    least = least_every(every, told)
    return least, sorted({rest % least for rest in told})


def met(one, other):
    """Return the lot of the days that are in both."""
    check_lot(one)
    check_lot(other)
    every = lcm(one[0], other[0])
    held = set(other[1])
    return lot(every, [rest for rest in spread(one, every) if rest % other[0] in held])


def joined(one, other):
    """Return the lot of the days that are in one of both."""
    check_lot(one)
    check_lot(other)
    every = lcm(one[0], other[0])
    return lot(every, spread(one, every) + spread(other, every))


def less(one, other):
    """Return the lot of the days that are in the one and not in the other."""
    check_lot(one)
    check_lot(other)
    every = lcm(one[0], other[0])
    held = set(other[1])
    return lot(every, [rest for rest in spread(one, every) if rest % other[0] not in held])


def has(one, day):
    """Return True if a day is in a lot, otherwise False."""
    check_lot(one)
    check_day(day)
    return day % one[0] in one[1]


def next_day(one, day):
    """Return the least day of a lot that is not less than a day, None if there is none."""
    check_lot(one)
    check_day(day)
    every, rests = one
    if not rests:
        return None
    passed = day % every
    for rest in rests:
        if rest >= passed:
            return day - passed + rest
    return day - passed + every + rests[0]


def number(one, low, high):
    """Return how many days from `low` to `high`, both included, are in a lot."""
    check_lot(one)
    check_day(low)
    check_day(high)
    if high < low:
        return 0
    return number_ahead(one, high + 1) - number_ahead(one, low)


def widest(one):
    """Return the greatest number of days that one has to wait for a day of a lot, None if it has none."""
    check_lot(one)
    every, rests = one
    if not rests:
        return None
    following = rests[1:] + [rests[0] + every]
    return max([later - rest for rest, later in zip(rests, following)]) - 1


def least_every(every, rests):
    """Return the least number that tells the days of a lot."""
    # A lesser number does only if the rests are all that leave certain rests by it. Then it goes
    # into `every` just as often as the rests shrink, so that this often divides both numbers.
    most = gcd(every, len(rests))
    for often in range(most, 1, -1):
        if most % often == 0 and len({rest % (every // often) for rest in rests}) * often == len(rests):
            return every // often
    return every


def spread(one, every):
    """Return the ascending rests of a lot's days by a multiple of its own `every`."""
    return [start + rest for start in range(0, every, one[0]) for rest in one[1]]


def number_ahead(one, day):
    """Return how many days of a lot are less than a day."""
    every, rests = one
    return day // every * len(rests) + len([rest for rest in rests if rest < day % every])


def check_lot(one):
    """Raise InvalidLot if a lot is none, whether its `every` is the least or not."""
    every, rests = one
    if every < 1 or rests != sorted({rest % every for rest in rests}):
        raise InvalidLot((every, list(rests)))


def check_day(day):
    """Raise InvalidDay if a day is less than 0."""
    if day < 0:
        raise InvalidDay(day)
