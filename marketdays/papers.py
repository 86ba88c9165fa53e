"""Papers: rows that show anybody why a word of a town and a day is sure or open."""

from marketdays.groups import all_lots, asked_of, broken, fitting_lots, group_of
from marketdays.sure import says
from marketdays.turns import has_market


def paper(diary, town, day):
    """Return the paper for the word that the diary says of a town and a day."""
    word = says(diary, town, day)
    group = group_of(diary, town)
    place = group.index(town)
    if word == "open":
        lots = fitting_lots(diary, group)
        held = [chosen for chosen in lots if has_market(chosen[place], day)]
        free = [chosen for chosen in lots if not has_market(chosen[place], day)]
        return [(chosen, None) for chosen in sorted([held[0], free[0]])]
    asked = asked_of(diary, group)
    return [(chosen, broken(asked, chosen)[0]) for chosen in lots_against(diary, group, place, day, word)]


def judge_paper(diary, town, day, word, told):
    """Return True if rows in any order show a word of a town and a day, otherwise False."""
    # Only called for its errors: a paper is judged by its rows alone.
    says(diary, town, day)
    group = group_of(diary, town)
    place = group.index(town)
    if word == "open":
        return shows_open(diary, group, place, day, told)
    return word in ("market", "none") and shows_sure(diary, group, place, day, word, told)


def lots_against(diary, group, place, day, word):
    """Return the ascending list of the lots of choices with which a sure word would be wrong."""
    return [chosen for chosen in all_lots(diary, group) if has_market(chosen[place], day) == (word == "none")]


def shows_sure(diary, group, place, day, word, told):
    """Return True if rows refute just the lots of choices with which a sure word would be wrong, otherwise False."""
    if sorted([chosen for chosen, _ in told]) != lots_against(diary, group, place, day, word):
        return False
    asked = asked_of(diary, group)
    return all([why in broken(asked, chosen) for chosen, why in told])


def shows_open(diary, group, place, day, told):
    """Return True if two rows without a note have lots of choices that fit, one with market, otherwise False."""
    lots = fitting_lots(diary, group)
    if len(told) != 2 or not all([chosen in lots and why is None for chosen, why in told]):
        return False
    one, other = [has_market(chosen[place], day) for chosen, _ in told]
    return one != other
