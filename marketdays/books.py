"""Books: diaries that are led note by note."""

from marketdays.cases import number_of_cases
from marketdays.diaries import Diary
from marketdays.errors import NothingToUndo, Quarrel
from marketdays.sure import follows


class Book:
    """A diary that is led note by note, so that some case always fits."""

    def __init__(self, towns):
        self._diary = Diary(towns, [])

    @property
    def diary(self):
        """The diary now."""
        return self._diary

    def __call__(self, note):
        """Add a note that some case keeps, too; return how many cases fit then."""
        led = self._diary.with_note(note)
        many = number_of_cases(led)
        if many == 0:
            raise Quarrel(note)
        self._diary = led
        return many

    def fresh(self, note):
        """Return True if a note would leave out a case, otherwise False."""
        return follows(self._diary, note) != "surely"

    def undo(self):
        """Take back the last note."""
        if len(self._diary) == 0:
            raise NothingToUndo(0)
        self._diary = self._diary.without(len(self._diary) - 1)

    def __len__(self):
        return len(self._diary)

    def __eq__(self, other):
        return isinstance(other, Book) and self._diary == other._diary
