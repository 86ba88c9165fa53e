"""Tests of marketdays.diaries: promises [2], [3], [5], [6] and its section."""

import unittest

from marketdays.diaries import Diary
from marketdays.errors import (DoubleTown, InvalidDay, InvalidName, InvalidNote, InvalidTown, UnknownNote,
                               UnknownTown)
from tests.raising import error_of

FAR = 10 ** 30
TOWNS = [("ulm", 2, 6), ("wien", 7, 7), ("bonn", 1, 1)]
NOTES = [("market", "ulm", 3), ("none", "wien", 0), ("one", "ulm", "wien", 12), ("same", "bonn", "ulm", FAR)]


def note_error(note):
    """Return the error of a note of the three towns; it must be the same of the class and of with_note."""
    diary = Diary(TOWNS, NOTES)
    told = error_of(diary.with_note, note)
    if error_of(Diary, TOWNS, NOTES + [note]) != told:
        raise AssertionError("the class and with_note differ")
    if diary.notes != NOTES or diary.towns != TOWNS:
        raise AssertionError("the diary has changed")
    return told


class DiaryTest(unittest.TestCase):

    def test_towns_notes_names_and_length(self):
        diary = Diary(TOWNS, NOTES)
        self.assertEqual(diary.towns, TOWNS)
        self.assertEqual(diary.notes, NOTES)
        self.assertEqual(diary.names(), ["ulm", "wien", "bonn"])
        self.assertEqual(len(diary), 4)

    def test_without_towns_or_notes(self):
        empty = Diary([], [])
        self.assertEqual([empty.towns, empty.notes, empty.names(), len(empty)], [[], [], [], 0])
        quiet = Diary(TOWNS, [])
        self.assertEqual([quiet.towns, quiet.notes, len(quiet)], [TOWNS, [], 0])

    def test_20_towns_with_turns_to_a_million_and_60_notes(self):
        towns = [("town" + letter, 1, 10 ** 6) for letter in "abcdefghijklmnopqrst"]
        words = ["market", "none", "one", "same"]
        notes = []
        for k in range(60):
            pair = ("town" + "abcdefghijklmnopqrst"[k % 20], "town" + "abcdefghijklmnopqrst"[(7 * k + 1) % 20])
            notes.append((words[k % 4],) + pair[:1 + k % 4 // 2] + (FAR - k,))
        diary = Diary(towns, notes)
        self.assertEqual([diary.towns, diary.notes, len(diary)], [towns, notes, 60])
        self.assertEqual(diary, Diary(towns, notes[:-1]).with_note(notes[-1]))
        self.assertEqual(diary.without(59).notes, notes[:59])

    def test_edges_of_towns_and_notes(self):
        for town in [("a", 1, 1), ("z", 1, 10 ** 6), ("abcdefgh", 8, 8), ("market", 2, 3), ("none", 1, 2)]:
            self.assertEqual(Diary([town], []).towns, [town])
            self.assertEqual(Diary([town], [("none", town[0], 0)]).notes, [("none", town[0], 0)])
        twice = [("market", "ulm", 0), ("market", "ulm", 0), ("none", "ulm", 0)]
        self.assertEqual(Diary(TOWNS, twice).notes, twice)

    def test_with_note(self):
        diary = Diary(TOWNS, NOTES[:1])
        more = diary.with_note(NOTES[1])
        self.assertIsInstance(more, Diary)
        self.assertEqual([more.towns, more.notes, len(more)], [TOWNS, NOTES[:2], 2])
        self.assertEqual([diary.notes, len(diary)], [NOTES[:1], 1])
        self.assertEqual(diary.with_note(NOTES[0]).notes, [NOTES[0], NOTES[0]])
        self.assertEqual(diary.with_note(note=NOTES[2]).notes, [NOTES[0], NOTES[2]])

    def test_without(self):
        diary = Diary(TOWNS, NOTES)
        for index in range(4):
            fewer = diary.without(index)
            self.assertIsInstance(fewer, Diary)
            self.assertEqual(fewer.notes, NOTES[:index] + NOTES[index + 1:])
            self.assertEqual(fewer.towns, TOWNS)
        self.assertEqual(diary.without(index=0).notes, NOTES[1:])
        self.assertEqual([diary.notes, len(diary)], [NOTES, 4])
        doubled = Diary(TOWNS, [NOTES[0], NOTES[1], NOTES[0]])
        self.assertEqual(doubled.without(2).notes, NOTES[:2])

    def test_without_a_note_that_is_not_there(self):
        diary = Diary(TOWNS, NOTES)
        for index in (-1, -4, -5, 4, 5, FAR, -FAR):
            self.assertEqual(error_of(diary.without, index), (UnknownNote, index))
        self.assertEqual(diary.notes, NOTES)
        for index in (-1, 0, 1):
            self.assertEqual(error_of(Diary(TOWNS, []).without, index), (UnknownNote, index))

    def test_equal(self):
        diary = Diary(TOWNS, NOTES)
        self.assertTrue(diary == Diary(list(TOWNS), list(NOTES)))
        self.assertFalse(diary != Diary(list(TOWNS), list(NOTES)))
        self.assertTrue(Diary([], []) == Diary([], []))
        self.assertTrue(diary.with_note(NOTES[0]).without(4) == diary)
        for other in [Diary(TOWNS, NOTES[:3]), Diary(TOWNS, NOTES[::-1]), Diary(TOWNS[::-1], NOTES),
                      Diary([("ulm", 2, 5)] + TOWNS[1:], NOTES), Diary(TOWNS + [("graz", 1, 2)], NOTES), Diary([], [])]:
            self.assertFalse(diary == other)
            self.assertTrue(diary != other)
        self.assertFalse(Diary(TOWNS, [("one", "ulm", "wien", 1)]) == Diary(TOWNS, [("one", "wien", "ulm", 1)]))

    def test_a_diary_is_not_equal_to_anything_else(self):
        for diary in (Diary(TOWNS, NOTES), Diary([], [])):
            for other in [None, 0, True, "", [], (), {}, TOWNS, NOTES, (TOWNS, NOTES), [TOWNS, NOTES], Diary, object()]:
                self.assertIs(diary == other, False)
                self.assertIs(diary != other, True)
                self.assertIs(other == diary, False)

    def test_arguments_by_name(self):
        self.assertEqual(Diary(notes=NOTES, towns=TOWNS), Diary(TOWNS, NOTES))


class TownErrorsTest(unittest.TestCase):

    def test_names_that_are_none(self):
        for name in ["", "abcdefghi", "Ulm", "ulM", "ulm1", "u m", " ", "ulm ", " ulm", "a-b", "~", "{", "`", "@", "[",
                     "ulm,", "a" * 3000]:
            self.assertEqual(error_of(Diary, [(name, 1, 2)], []), (InvalidName, name))
            self.assertEqual(error_of(Diary, TOWNS + [(name, 1, 2)], NOTES), (InvalidName, name))

    def test_towns_that_stood_before(self):
        self.assertEqual(error_of(Diary, TOWNS + [("wien", 1, 2)], []), (DoubleTown, "wien"))
        self.assertEqual(error_of(Diary, [("ulm", 1, 2), ("ulm", 1, 2)], []), (DoubleTown, "ulm"))

    def test_bounds_that_are_wrong(self):
        for low, high in [(0, 0), (0, 3), (-1, 2), (-2, -1), (2, 1), (7, 6), (1, 0), (10 ** 6, 1)]:
            self.assertEqual(error_of(Diary, [("ulm", low, high)], []), (InvalidTown, ("ulm", low, high)))

    def test_town_by_town(self):
        double, bounds, name = ("ulm", 3, 1), ("graz", 0, 1), ("Graz", 0, 1)
        self.assertEqual(error_of(Diary, TOWNS + [double, name], []), (DoubleTown, "ulm"))
        self.assertEqual(error_of(Diary, TOWNS + [bounds, double, name], []), (InvalidTown, bounds))
        self.assertEqual(error_of(Diary, TOWNS + [name, bounds, double], []), (InvalidName, "Graz"))
        self.assertEqual(error_of(Diary, [bounds, bounds], []), (InvalidTown, bounds))
        self.assertEqual(error_of(Diary, [name, name], []), (InvalidName, "Graz"))

    def test_towns_ahead_of_notes(self):
        self.assertEqual(error_of(Diary, [("ulm", 2, 1)], [()]), (InvalidTown, ("ulm", 2, 1)))
        self.assertEqual(error_of(Diary, TOWNS + [("", 1, 1)], [("market", "x", -1)]), (InvalidName, ""))
        self.assertEqual(error_of(Diary, TOWNS + TOWNS, [("market", "ulm", -1)]), (DoubleTown, "ulm"))


class NoteErrorsTest(unittest.TestCase):

    def test_notes_that_are_none(self):
        for note in [(), ("market",), ("none",), ("one",), ("same",), ("market", "ulm"), ("none", 3), ("one", "ulm"),
                     ("one", "ulm", 3), ("same", "wien", 4), ("market", "ulm", "wien", 3), ("none", "ulm", "wien", 3),
                     ("one", "ulm", "wien", "bonn", 3), ("same", "ulm", "wien", 3, 4), ("market", "ulm", 3, 4),
                     ("", "ulm", 3), ("Market", "ulm", 3), ("markets", "ulm", 3), ("both", "ulm", "wien", 3),
                     ("ulm", "ulm", 3), ("market ", "ulm", 3), ("x",), ("",)]:
            self.assertEqual(note_error(note), (InvalidNote, note))

    def test_names_that_are_no_towns(self):
        for name in ["graz", "", "Ulm", "ulm ", "a b~", "market"]:
            self.assertEqual(note_error(("market", name, 3)), (UnknownTown, name))
            self.assertEqual(note_error(("none", name, 3)), (UnknownTown, name))
            for word in ("one", "same"):
                self.assertEqual(note_error((word, name, "ulm", 3)), (UnknownTown, name))
                self.assertEqual(note_error((word, "ulm", name, 3)), (UnknownTown, name))
                self.assertEqual(note_error((word, name, "linz", 3)), (UnknownTown, name))
                self.assertEqual(note_error((word, name, name, 3)), (UnknownTown, name))
        self.assertEqual(error_of(Diary, [], [("market", "ulm", 3)]), (UnknownTown, "ulm"))

    def test_one_town_twice(self):
        for word in ("one", "same"):
            for name in ("ulm", "bonn"):
                self.assertEqual(note_error((word, name, name, 3)), (InvalidNote, (word, name, name, 3)))

    def test_days_less_than_0(self):
        for day in (-1, -10, -FAR):
            for head in [("market", "ulm"), ("none", "wien"), ("one", "ulm", "wien"), ("same", "bonn", "ulm")]:
                self.assertEqual(note_error(head + (day,)), (InvalidDay, day))
                self.assertIsNone(note_error(head + (0,)))
                self.assertIsNone(note_error(head + (FAR,)))

    def test_the_order_within_a_note(self):
        self.assertEqual(note_error(("markets", "graz", -1)), (InvalidNote, ("markets", "graz", -1)))
        self.assertEqual(note_error(("one", "graz", -1)), (InvalidNote, ("one", "graz", -1)))
        self.assertEqual(note_error(("market", "graz", -1)), (UnknownTown, "graz"))
        self.assertEqual(note_error(("one", "graz", "graz", -1)), (UnknownTown, "graz"))
        self.assertEqual(note_error(("same", "ulm", "ulm", -1)), (InvalidNote, ("same", "ulm", "ulm", -1)))

    def test_note_by_note(self):
        day, town, none = ("market", "ulm", -1), ("market", "graz", 3), ("both",)
        self.assertEqual(error_of(Diary, TOWNS, [day, town, none]), (InvalidDay, -1))
        self.assertEqual(error_of(Diary, TOWNS, [town, none, day]), (UnknownTown, "graz"))
        self.assertEqual(error_of(Diary, TOWNS, [none, day, town]), (InvalidNote, none))


class ListsTest(unittest.TestCase):

    def test_lists_handed_over_are_neither_changed_nor_kept(self):
        towns, notes = list(TOWNS), list(NOTES)
        diary = Diary(towns, notes)
        self.assertEqual([towns, notes], [TOWNS, NOTES])
        towns.pop()
        notes.clear()
        self.assertEqual([diary.towns, diary.notes, diary.names(), len(diary)],
                         [TOWNS, NOTES, ["ulm", "wien", "bonn"], 4])

    def test_lists_handed_over_are_not_changed_by_errors(self):
        towns, notes = TOWNS + [("ulm", 1, 1)], NOTES + [()]
        error_of(Diary, towns, notes)
        error_of(Diary, TOWNS, notes)
        self.assertEqual([towns, notes], [TOWNS + [("ulm", 1, 1)], NOTES + [()]])

    def test_returned_lists_are_new(self):
        diary = Diary(TOWNS, NOTES)
        diary.towns.clear()
        diary.notes.append(("none", "ulm", 1))
        diary.names().reverse()
        self.assertEqual([diary.towns, diary.notes, diary.names(), len(diary)],
                         [TOWNS, NOTES, ["ulm", "wien", "bonn"], 4])
        self.assertEqual(diary, Diary(TOWNS, NOTES))

    def test_diaries_do_not_share_lists(self):
        diary = Diary(TOWNS, NOTES)
        for other in (diary.with_note(NOTES[0]), diary.without(0), Diary(diary.towns, diary.notes)):
            other.towns.clear()
            other.notes.clear()
        self.assertEqual([diary.towns, diary.notes], [TOWNS, NOTES])

    def test_towns_and_notes_are_not_assigned(self):
        diary = Diary(TOWNS, NOTES)
        for name in ("towns", "notes"):
            with self.assertRaises(AttributeError):
                setattr(diary, name, [])
        self.assertEqual([diary.towns, diary.notes], [TOWNS, NOTES])


if __name__ == "__main__":
    unittest.main()
