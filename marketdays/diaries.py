"""Diaries: towns with the bounds of their turns, and notes of their market days."""

from marketdays.errors import DoubleTown, InvalidDay, InvalidName, InvalidNote
from marketdays.errors import InvalidTown, UnknownNote, UnknownTown

LETTERS = "abcdefghijklmnopqrstuvwxyz"
MOST_LETTERS = 8
THINGS = {"market": 3, "none": 3, "one": 4, "same": 4}


class Diary:
    """Towns and notes, which never change."""

    def __init__(self, towns, notes):
        check_towns(towns)
        names = [town[0] for town in towns]
        for note in notes:
            check_note(names, note)
        self._towns = list(towns)
        self._notes = list(notes)

    @property
    def towns(self):
        """The list of the towns."""
        return list(self._towns)

    @property
    def notes(self):
        """The list of the notes."""
        return list(self._notes)

    def names(self):
        """Return the list of the names of the towns."""
        return [town[0] for town in self._towns]

    def with_note(self, note):
        """Return the diary with one note more at the end."""
        return Diary(self._towns, self._notes + [note])

    def without(self, index):
        """Return the diary without the note that has an index."""
        if index < 0 or index >= len(self._notes):
            raise UnknownNote(index)
        return Diary(self._towns, self._notes[:index] + self._notes[index + 1:])

    def __len__(self):
        return len(self._notes)

    def __eq__(self, other):
        return isinstance(other, Diary) and self._towns == other._towns and self._notes == other._notes


def check_towns(towns):
    """Raise the error of the first town that is wrong."""
    names = []
    for town in towns:
        name, low, high = town
        if not is_name(name):
            raise InvalidName(name)
        if name in names:
            raise DoubleTown(name)
        if low < 1 or high < low:
            raise InvalidTown(town)
        names.append(name)


def is_name(name):
    """Return True if a text is a town's name, otherwise False."""
    return 1 <= len(name) <= MOST_LETTERS and all([letter in LETTERS for letter in name])


def check_note(names, note):
    """Raise the error of a note that is wrong where the towns have these names."""
    if not note or len(note) != THINGS.get(note[0]):
        raise InvalidNote(note)
    asked = note[1:-1]
    check_asked(names, asked)
    if len(asked) == 2 and asked[0] == asked[1]:
        raise InvalidNote(note)
    if note[-1] < 0:
        raise InvalidDay(note[-1])


def check_asked(names, asked):
    """Raise UnknownTown for the first name that is asked of and is no town's."""
    for name in asked:
        if name not in names:
            raise UnknownTown(name)
