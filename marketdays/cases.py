"""Cases: what the turns and first days of all towns can be."""

from marketdays.diaries import check_asked
from marketdays.errors import InvalidNote, InvalidTown, Quarrel, UnknownTown
from marketdays.groups import asked_of, broken, fitting_lots, groups_of
from marketdays.turns import is_choice


def keeps(diary, case):
    """Return the list of the indexes of the notes that a case does not keep."""
    towns = diary.towns
    if len(case) != len(towns):
        raise UnknownTown(len(case))
    for town, choice in zip(towns, case):
        if not is_choice(town, choice):
            raise InvalidTown(choice)
    return broken(asked_of(diary, diary.names()), case)


def quarrels(diary):
    """Return True if no case fits, otherwise False."""
    return number_of_cases(diary) == 0


def first_case(diary):
    """Return the least case that fits."""
    chosen = {}
    for group, lots in fitting_parts(diary):
        for name, choice in zip(group, lots[0]):
            chosen[name] = choice
    return [chosen[name] for name in diary.names()]


def choices(diary, town):
    """Return the ascending list of the choices that a town has in cases that fit."""
    check_asked(diary.names(), [town])
    return choices_within(fitting_parts(diary), town)


def couples(diary, town, other):
    """Return the ascending list of the tuples of choices that two towns have together in cases that fit."""
    check_two(diary, town, other)
    parts = fitting_parts(diary)
    group, lots = part_with(parts, town)
    if other in group:
        place, behind = group.index(town), group.index(other)
        return sorted({(chosen[place], chosen[behind]) for chosen in lots})
    others = choices_within(parts, other)
    return [(choice, second) for choice in choices_within(parts, town) for second in others]


def number_of_cases(diary):
    """Return how many cases fit."""
    many = 1
    for group in groups_of(diary):
        many = many * len(fitting_lots(diary, group))
    return many


def check_two(diary, town, other):
    """Raise the error of two towns of which one is unknown, or that are the same."""
    check_asked(diary.names(), [town, other])
    if town == other:
        raise InvalidNote(town)


def fitting_parts(diary):
    """Return tuples (group, its lots of choices that fit) of all groups; raise Quarrel if the diary quarrels."""
    parts = [(group, fitting_lots(diary, group)) for group in groups_of(diary)]
    if [] in [lots for _, lots in parts]:
        raise Quarrel(0)
    return parts


def part_with(parts, town):
    """Return the part of `fitting_parts` whose group has a town."""
    return [part for part in parts if town in part[0]][0]


def choices_within(parts, town):
    """Return the ascending list of the choices that a town has in parts of `fitting_parts`."""
    group, lots = part_with(parts, town)
    place = group.index(town)
    return sorted({chosen[place] for chosen in lots})
