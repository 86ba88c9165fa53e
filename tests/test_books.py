"""Tests of marketdays.books: promises [2], [3], [6] and its section."""

import unittest
from random import Random

from marketdays.books import Book
from marketdays.cases import number_of_cases
from marketdays.diaries import Diary
from marketdays.errors import (DoubleTown, InvalidDay, InvalidName, InvalidNote, InvalidTown, NothingToUndo, Quarrel,
                               UnknownTown)
from tests.raising import error_of
from tests.trying import FAR, SMALL, any_note, fitting, keeps_note, some_diaries

TOWNS = [("ulm", 2, 3), ("wien", 1, 2)]


def led(towns, notes):
    """Return a book with notes that do not quarrel."""
    book = Book(towns)
    for note in notes:
        book(note)
    return book


class ExamplesTest(unittest.TestCase):

    def test_the_examples_of_the_section(self):
        book = Book([("ulm", 1, 3)])
        self.assertEqual(
            [book(("market", "ulm", 6)), book.fresh(("none", "ulm", 7)), book(("none", "ulm", 7)), book.fresh(("market", "ulm", 12)), book.undo(), book(("market", "ulm", 7)), len(book)],
            [3, True, 2, False, None, 1, 2])


class LedTest(unittest.TestCase):

    def ask(self, book, towns, notes, note):
        """Ask a book that has some notes for a note, compare it with going through all cases; return the notes then."""
        names = [town[0] for town in towns]
        cases = fitting(towns, notes)
        kept = [case for case in cases if keeps_note(dict(zip(names, case)), note)]
        self.assertIs(book.fresh(note), len(kept) < len(cases))
        self.assertEqual(book.diary, Diary(towns, notes))
        if kept:
            self.assertEqual(book(note), len(kept))
            notes = notes + [note]
        else:
            self.assertEqual(error_of(book, note), (Quarrel, note))
        self.assertEqual([book.diary, len(book), number_of_cases(book.diary)],
                         [Diary(towns, notes), len(notes), len(kept) or len(cases)])
        return notes

    def test_some_books(self):
        random = Random(71)
        for towns, first in SMALL + some_diaries(72, 60, 3):
            book, notes, names = Book(towns), [], [town[0] for town in towns]
            for note in first + [any_note(random, names) for _ in range(6) if names]:
                notes = self.ask(book, towns, notes, note)
                if random.random() < 0.3 and notes:
                    self.assertIsNone(book.undo())
                    notes = notes[:-1]
                    self.assertEqual(book.diary, Diary(towns, notes))

    def test_a_book_is_ahead_of_all_notes_first(self):
        for towns in ([], TOWNS, [("ulm", 1, 1)]):
            book = Book(towns)
            self.assertEqual([len(book), book.diary], [0, Diary(towns, [])])

    def test_notes_that_quarrel_are_not_added(self):
        book = led(TOWNS, [("market", "ulm", 4), ("one", "ulm", "wien", 4)])
        for note in [("none", "ulm", 4), ("market", "wien", 4), ("same", "wien", "ulm", 4), ("none", "ulm", 10)]:
            for _ in range(2):
                self.assertEqual(error_of(book, note), (Quarrel, note))
                self.assertEqual([len(book), book.diary.notes], [2, [("market", "ulm", 4), ("one", "ulm", "wien", 4)]])
        self.assertEqual(book(("market", "wien", 5)), 2)

    def test_a_note_told_twice_is_added_twice(self):
        book = led(TOWNS, [("market", "ulm", 4)])
        self.assertEqual([book(("market", "ulm", 4)), len(book), book.diary.notes], [6, 2, 2 * [("market", "ulm", 4)]])

    def test_undone_to_the_beginning_and_led_again(self):
        book = Book(TOWNS)
        notes = [("market", "ulm", 4), ("none", "ulm", FAR + 2), ("same", "ulm", "wien", 3)]
        for _ in range(3):
            many = [book(note) for note in notes]
            self.assertEqual(many, [len(fitting(TOWNS, notes[:number])) for number in (1, 2, 3)])
            for number in (2, 1, 0):
                self.assertIsNone(book.undo())
                self.assertEqual([len(book), book.diary], [number, Diary(TOWNS, notes[:number])])
            for _ in range(2):
                self.assertEqual(error_of(book.undo), (NothingToUndo, 0))
                self.assertEqual([len(book), book.diary], [0, Diary(TOWNS, [])])

    def test_an_undone_note_is_fresh_again(self):
        book = led([("ulm", 2, 2)], [("market", "ulm", 4)])
        for note in [("market", "ulm", 6), ("none", "ulm", 5), ("none", "ulm", FAR + 1)]:
            self.assertIs(book.fresh(note), False)
        self.assertIs(book.fresh(("none", "ulm", 4)), True)
        book.undo()
        for note in [("market", "ulm", 6), ("none", "ulm", 5), ("none", "ulm", FAR + 1), ("none", "ulm", 4)]:
            self.assertIs(book.fresh(note), True)

    def test_fresh_adds_nothing(self):
        book = led(TOWNS, [("market", "ulm", 4)])
        for note in [("market", "ulm", 6), ("none", "ulm", 4), ("one", "wien", "ulm", 4), ("market", "ulm", 4)]:
            self.assertIs(book.fresh(note), note != ("market", "ulm", 4))
            self.assertEqual([len(book), book.diary], [1, Diary(TOWNS, [("market", "ulm", 4)])])

    def test_a_diary_of_a_book_never_changes(self):
        book = Book(TOWNS)
        first = book.diary
        book(("market", "ulm", 4))
        second = book.diary
        book.undo()
        book(("none", "wien", 5))
        self.assertEqual([first, second], [Diary(TOWNS, []), Diary(TOWNS, [("market", "ulm", 4)])])
        second.notes.append(("market", "ulm", 5))
        book.diary.notes.clear()
        book.diary.towns.clear()
        self.assertEqual(book.diary, Diary(TOWNS, [("none", "wien", 5)]))


class EqualTest(unittest.TestCase):

    def test_books_are_equal_if_their_diaries_are(self):
        notes = [("market", "ulm", 4), ("none", "wien", 3)]
        self.assertTrue(led(TOWNS, notes) == led(list(TOWNS), list(notes)))
        self.assertFalse(led(TOWNS, notes) != led(TOWNS, notes))
        for towns, others in [(TOWNS, notes[:1]), (TOWNS, notes[::-1]), (TOWNS[::-1], notes), (TOWNS, []),
                              ([("ulm", 2, 4), ("wien", 1, 2)], notes), (TOWNS + [("bonn", 1, 1)], notes)]:
            self.assertFalse(led(TOWNS, notes) == led(towns, others))
            self.assertTrue(led(towns, others) != led(TOWNS, notes))
        self.assertTrue(Book([]) == Book([]))

    def test_a_book_by_any_road(self):
        one, other = led(TOWNS, [("market", "ulm", 4)]), Book(TOWNS)
        self.assertFalse(one == other)
        other(("none", "wien", 3))
        other.undo()
        other(("market", "ulm", 4))
        error_of(other, ("none", "ulm", 4))
        self.assertTrue(one == other)
        self.assertTrue(one == one)

    def test_a_book_is_not_equal_to_anything_else(self):
        book = led(TOWNS, [("market", "ulm", 4)])
        for other in (book.diary, TOWNS, book.diary.notes, None, 1, True, "", (), Book):
            self.assertFalse(book == other)
            self.assertFalse(other == book)
            self.assertTrue(book != other)
        self.assertFalse(Book([]) == Diary([], []))


class ErrorsTest(unittest.TestCase):

    def test_towns_that_are_wrong(self):
        for towns, told in [([("", 1, 1)], (InvalidName, "")), ([("Ulm", 1, 1)], (InvalidName, "Ulm")),
                            ([("abcdefghi", 0, 1)], (InvalidName, "abcdefghi")),
                            ([("ulm", 1, 1), ("ulm", 0, 1)], (DoubleTown, "ulm")),
                            ([("ulm", 0, 1)], (InvalidTown, ("ulm", 0, 1))),
                            ([("ulm", 3, 2), ("u1", 1, 1)], (InvalidTown, ("ulm", 3, 2))),
                            ([("ulm", -1, 2)], (InvalidTown, ("ulm", -1, 2))),
                            (TOWNS + [("bonn", 10 ** 6, 10 ** 6 - 1)], (InvalidTown, ("bonn", 10 ** 6, 10 ** 6 - 1)))]:
            self.assertEqual(error_of(Book, towns), told)
            self.assertEqual(error_of(Book, towns=towns), told)
        twenty = [(letter * 8, 1, 10 ** 6) for letter in "abcdefghijklmnopqrst"]
        self.assertEqual(error_of(Book, twenty + [("c" * 8, 1, 1)]), (DoubleTown, "c" * 8))

    def test_notes_that_are_wrong(self):
        book = led(TOWNS, [("market", "ulm", 4)])
        kept = book.diary
        for note, told in [((), (InvalidNote, ())), (("market",), (InvalidNote, ("market",))),
                           (("both", "ulm", 3), (InvalidNote, ("both", "ulm", 3))),
                           (("market", "graz", "linz", -1), (InvalidNote, ("market", "graz", "linz", -1))),
                           (("one", "ulm", -1), (InvalidNote, ("one", "ulm", -1))),
                           (("market", "graz", -1), (UnknownTown, "graz")), (("same", "linz", "graz", 3), (UnknownTown, "linz")),
                           (("one", "ulm", "graz", -1), (UnknownTown, "graz")),
                           (("one", "ulm", "ulm", -1), (InvalidNote, ("one", "ulm", "ulm", -1))),
                           (("none", "ulm", -1), (InvalidDay, -1)), (("same", "ulm", "wien", -FAR), (InvalidDay, -FAR))]:
            for call in (book, book.fresh):
                self.assertEqual(error_of(call, note), told)
                self.assertEqual(error_of(call, note=note), told)
                self.assertEqual([book.diary, len(book)], [kept, 1])
        self.assertEqual(error_of(Book([]), ("market", "ulm", 3)), (UnknownTown, "ulm"))
        self.assertEqual(error_of(Book([]).fresh, ("market", "ulm", 3)), (UnknownTown, "ulm"))

    def test_nothing_to_undo(self):
        self.assertEqual(error_of(Book(TOWNS).undo), (NothingToUndo, 0))
        book = Book(TOWNS)
        error_of(book, ("market", "graz", 4))
        self.assertEqual(error_of(book.undo), (NothingToUndo, 0))

    def test_the_diary_is_not_assigned(self):
        book = Book(TOWNS)
        with self.assertRaises(AttributeError):
            book.diary = Diary(TOWNS, [])


class ListsTest(unittest.TestCase):

    def test_lists_that_are_handed_over_are_neither_changed_nor_kept(self):
        towns = list(TOWNS)
        book = Book(towns)
        book(("market", "ulm", 4))
        self.assertEqual(towns, TOWNS)
        towns.clear()
        self.assertEqual([book.diary, book(("none", "wien", 3))], [Diary(TOWNS, [("market", "ulm", 4)]), 2])

    def test_two_books_by_turns(self):
        one, other = Book(TOWNS), Book(TOWNS)
        for number in range(1, 4):
            self.assertEqual([one(("market", "ulm", 4)), other(("none", "ulm", 4))], [6, 9])
            self.assertEqual([len(one), len(other)], [number, number])
            self.assertEqual([one.fresh(("none", "ulm", 7)), other.fresh(("market", "ulm", 4))], [True, True])
        one.undo()
        self.assertEqual([len(one), len(other)], [2, 3])

    def test_arguments_by_name(self):
        book = Book(towns=TOWNS)
        self.assertEqual([book.fresh(note=("market", "ulm", 4)), book(note=("market", "ulm", 4))], [True, 6])


if __name__ == "__main__":
    unittest.main()
