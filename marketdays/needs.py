"""Needs: which notes are needless, which quarrel, and which ones make something sure."""

from itertools import combinations
from math import lcm

from marketdays.cases import choices, first_case, quarrels
from marketdays.diaries import check_asked
from marketdays.errors import InvalidTown
from marketdays.groups import all_lots, asked_of, broken, group_of, groups_of
from marketdays.papers import lots_against
from marketdays.sure import says, word_on

OPPOSITES = {"market": "none", "none": "market", "one": "same", "same": "one"}


def needless(diary):
    """Return the ascending list of the indexes of the notes without which, one at a time, the same cases fit."""
    sets = least_notes(diary)
    return [index for index in range(len(diary)) if any([index not in chosen for chosen in sets])]


def least_notes(diary):
    """Return the list of the least sets of notes which alone let just the same cases fit."""
    if quarrels(diary):
        return quarrel_sets(diary)
    # Some case keeps all notes, so the notes must refute each lot of each group that does not fit.
    found = [refuted for group in groups_of(diary) for refuted in refutations(diary, group, all_lots(diary, group))]
    return least_meeting(len(diary), [refuted for refuted in found if refuted])


def quarrel_sets(diary):
    """Return the list of the least sets of notes that no case keeps; the empty list if the diary does not quarrel."""
    found = []
    for group in groups_of(diary):
        refuted = refutations(diary, group, all_lots(diary, group))
        if () not in refuted:
            found.extend(least_meeting(len(diary), refuted))
    return sorted(found, key=lambda chosen: (len(chosen), chosen))


def alike(one, other):
    """Return True if two diaries have the same towns, in order, and the same cases fit, otherwise False."""
    return one.towns == other.towns and first_unlike(one, other) is None


def first_unlike(one, other):
    """Return the least case that fits just one of two diaries with the same towns, None if there is none."""
    check_same_towns(one.towns, other.towns)
    return min(least_against(one, other.notes) + least_against(other, one.notes), default=None)


def reasons(diary, town, day):
    """Return the list of the least sets of notes which alone say the diary's word of a day; none if it is "open"."""
    word = says(diary, town, day)
    if word == "open":
        return []
    group = group_of(diary, town)
    against = lots_against(diary, group, group.index(town), day, word)
    return least_meeting(len(diary), refutations(diary, group, against))


def mends(diary):
    """Return the list of the least sets of notes without which some case fits."""
    return least_meeting(len(diary), quarrel_sets(diary))


def first_day(one, other, town):
    """Return the least day of which two diaries say unlike words of a town, None if there is none."""
    for diary in (one, other):
        check_asked(diary.names(), [town])
    found, others = choices(one, town), choices(other, town)
    every = 1
    for turn, _ in found + others:
        every = lcm(every, turn)
    for day in range(every):
        if word_on(found, day) != word_on(others, day):
            return day
    return None


def refutations(diary, group, lots):
    """Return the unlike tuples of the indexes of all notes that one of some lots of a group does not keep."""
    asked = asked_of(diary, group)
    return sorted({tuple(broken(asked, chosen)) for chosen in lots})


def least_meeting(many, sets):
    """Return the list of the least sets of indexes below a number that meet each of some sets.

    They are ascending lists, by their number, then as lists.
    """
    found = []
    for size in range(many + 1):
        for chosen in combinations(range(many), size):
            if meets_all(chosen, sets) and not has_part(chosen, found):
                found.append(list(chosen))
    return found


def meets_all(chosen, sets):
    """Return True if some indexes have one of each of some sets, otherwise False."""
    return all([any([index in chosen for index in one]) for one in sets])


def has_part(chosen, sets):
    """Return True if one of some sets has only indexes that are chosen, otherwise False."""
    return any([all([index in chosen for index in one]) for one in sets])


def least_against(diary, notes):
    """Return for each of some notes that not all cases that fit keep the least case that does not."""
    against = [diary.with_note((OPPOSITES[note[0]],) + note[1:]) for note in notes]
    return [first_case(changed) for changed in against if not quarrels(changed)]


def check_same_towns(towns, others):
    """Raise InvalidTown for the first town that does not stand at its place in both lists."""
    for place, town in enumerate(towns):
        if others[place:place + 1] != [town]:
            raise InvalidTown(town)
    if len(others) > len(towns):
        raise InvalidTown(others[len(towns)])
