"""Groups: the towns that hang together, as lists of their names in order, and their lots of choices."""

from marketdays.bits import picked
from marketdays.turns import choices_of, is_kept, keeping, number_with


def group_of(diary, town):
    """Return the names of the towns that hang together with a town, itself too."""
    pairs = [note[1:3] for note in diary.notes if len(note) == 4]
    reached = {town}
    grown = True
    while grown:
        grown = False
        for one, other in pairs:
            if (one in reached) != (other in reached):
                reached.add(one)
                reached.add(other)
                grown = True
    return [name for name in diary.names() if name in reached]


def groups_of(diary):
    """Return the list of all groups, by their first towns."""
    groups = []
    for name in diary.names():
        group = group_of(diary, name)
        if group[0] == name:
            groups.append(group)
    return groups


def asked_of(diary, names):
    """Return tuples (index, note, places) of the notes that ask of some towns alone.

    The places are those of the note's towns among the names.
    """
    return [(index, note, [names.index(name) for name in note[1:-1]]) for index, note in enumerate(diary.notes)
            if all([name in names for name in note[1:-1]])]


def broken(asked, chosen):
    """Return the indexes of the notes, as `asked_of` tells them, that a lot of choices does not keep."""
    return [index for index, note, places in asked if not is_kept(note, [chosen[place] for place in places])]


def lots_keeping(diary, names, asked):
    """Return the ascending list of the lots of choices of some towns that keep notes, as `asked_of` tells them."""
    towns = [town for town in diary.towns if town[0] in names]
    lots = [[]]
    for last, town in enumerate(towns):
        # Each note is asked as soon as all its towns have a choice: that keeps the lists short.
        due = [(note, places) for _, note, places in asked if max(places) == last]
        lots = longer_lots(lots, choices_of(town), last, due)
    return lots


def longer_lots(lots, own, last, due):
    """Return the lots with one choice more, of the last town, that keep notes of it and of towns ahead of it."""
    rows = [(note[-1], [place for place in places if place != last], [keeping(note, own, ahead) for ahead in (0, 1)])
            for note, places in due]
    ways = {}
    found = []
    for chosen in lots:
        bits = (1 << len(own)) - 1
        for day, others, kept in rows:
            bits = bits & kept[number_with([chosen[other] for other in others], day)]
        if bits not in ways:
            ways[bits] = picked(own, bits)
        found.extend([chosen + [choice] for choice in ways[bits]])
    return found


def all_lots(diary, group):
    """Return the ascending list of all lots of choices of a group."""
    return lots_keeping(diary, group, [])


def fitting_lots(diary, group):
    """Return the ascending list of the lots of choices of a group that keep all notes of its towns."""
    return lots_keeping(diary, group, asked_of(diary, group))
