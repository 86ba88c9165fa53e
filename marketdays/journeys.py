"""Journeys: how long a traveller is under way to markets of several towns."""

from itertools import permutations

from marketdays.cases import fitting_parts, part_with
from marketdays.diaries import check_asked
from marketdays.errors import DoubleTown
from marketdays.lots import check_day
from marketdays.turns import wait_of


def journey(diary, order, day):
    """Return the least and the greatest number of days for going to market in some towns, in order."""
    check_asked(diary.names(), order)
    check_day(day)
    return days_under_way(fitting_parts(diary), order, day)


def best_order(diary, names, day):
    """Return the list of some names in the order with the least greatest number of days."""
    check_names(diary, names, day)
    parts = fitting_parts(diary)
    orders = [list(row) for row in permutations(names)]
    return min(orders, key=lambda order: days_under_way(parts, order, day)[1])


def chosen_journey(diary, names, day):
    """Return the least number of days for going to market in some towns, each next one chosen by what was seen."""
    check_names(diary, names, day)
    return best_travel(fitting_parts(diary), names, day)[0]


def travel(diary, names, day):
    """Return a travel within as many days as `chosen_journey` returns."""
    check_names(diary, names, day)
    return best_travel(fitting_parts(diary), names, day)[1]


def judge_travel(diary, names, day, told, most):
    """Return True if a travel goes to each of some towns once, within so many days, otherwise False."""
    check_names(diary, names, day)
    return is_travel(fitting_parts(diary), names, day, told, most)


def check_names(diary, names, day):
    """Raise the error of unlike names, and of a day, that are asked of."""
    check_asked(diary.names(), names)
    for place, name in enumerate(names):
        if name in names[:place]:
            raise DoubleTown(name)
    check_day(day)


def waits_in(parts, town, day):
    """Return ascending tuples (days to wait in a town, the parts that are left then) of what there can be."""
    group, lots = part_with(parts, town)
    place = group.index(town)
    by_wait = {}
    for chosen in lots:
        by_wait.setdefault(wait_of(chosen[place], day), []).append(chosen)
    others = [part for part in parts if part[0] != group]
    return [(wait, others + [(group, by_wait[wait])]) for wait in sorted(by_wait)]


def days_under_way(parts, order, day):
    """Return the least and the greatest number of days of a journey in an order, by parts of `fitting_parts`."""
    if not order:
        return 0, 0
    found = []
    for wait, known in waits_in(parts, order[0], day):
        least, greatest = days_under_way(known, order[1:], day + wait + 1)
        found.append((wait + 1 + least, wait + 1 + greatest))
    return min([least for least, _ in found]), max([greatest for _, greatest in found])


def best_travel(parts, names, day):
    """Return the least number of days of a chosen journey, and a travel within it, by parts of `fitting_parts`."""
    if not names:
        return 0, ("home",)
    best = None
    for town in names:
        most, rows = 0, []
        for wait, known in waits_in(parts, town, day):
            days, told = best_travel(known, all_but(names, town), day + wait + 1)
            rows.append((wait, told))
            most = max(most, wait + 1 + days)
        if best is None or most < best[0]:
            best = most, ("go", town, rows)
    return best


def is_travel(parts, names, day, told, most):
    """Return True if a travel goes to just these towns within so many days, by parts of `fitting_parts`."""
    if told[0] == "home":
        return not names and most >= 0
    _, town, rows = told
    if town not in names:
        return False
    ways = waits_in(parts, town, day)
    if [wait for wait, _ in rows] != [wait for wait, _ in ways]:
        return False
    return all([is_travel(known, all_but(names, town), day + wait + 1, then, most - wait - 1)
                for (wait, known), (_, then) in zip(ways, rows)])


def all_but(names, town):
    """Return the list of some names without one of them."""
    return [name for name in names if name != town]
