"""Tests of marketdays.cases: promises [2] to [7] and its section."""

import unittest
from copy import deepcopy

from marketdays.cases import choices, couples, first_case, keeps, number_of_cases, quarrels
from marketdays.diaries import Diary
from marketdays.errors import InvalidNote, InvalidTown, Quarrel, UnknownTown
from tests.raising import error_of
from tests.trying import FAR, GREAT, SMALL, chosen_in, choices_of, fitting, not_kept, some_diaries

QUARREL = Diary([("ulm", 2, 3), ("wien", 1, 2)], [("market", "ulm", 3), ("none", "ulm", 3)])
PAIR = Diary([("ulm", 2, 3), ("wien", 2, 2)], [("one", "ulm", "wien", 4), ("market", "ulm", 0)])


class ExamplesTest(unittest.TestCase):

    def test_the_examples_of_the_section(self):
        ulm = Diary([("ulm", 2, 6)], [("market", "ulm", 3), ("market", "ulm", 9), ("none", "ulm", 5)])
        self.assertEqual(
            [choices(ulm, "ulm"), keeps(ulm, [(2, 1)]), number_of_cases(ulm), quarrels(ulm.with_note(("market", "ulm", 4)))],
            [[(3, 0), (6, 3)], [2], 2, True])
        pair = Diary([("ulm", 2, 3), ("wien", 2, 2)], [("one", "ulm", "wien", 4), ("market", "ulm", 0)])
        self.assertEqual(
            [first_case(pair), choices(pair, "wien"), couples(pair, "ulm", "wien"), number_of_cases(pair)],
            [[(2, 0), (2, 1)], [(2, 0), (2, 1)], [((2, 0), (2, 1)), ((3, 0), (2, 0))], 2])


class AllCasesTest(unittest.TestCase):

    def compare(self, towns, notes):
        diary = Diary(towns, notes)
        cases = fitting(towns, notes)
        self.assertIs(quarrels(diary), not cases)
        self.assertEqual(number_of_cases(diary), len(cases))
        if not cases:
            self.assertEqual(error_of(first_case, diary), (Quarrel, 0))
            return
        self.assertEqual(first_case(diary), cases[0])
        for name in diary.names():
            self.assertEqual(choices(diary, name), chosen_in(towns, cases, name))
            for other in diary.names():
                if other != name:
                    self.assertEqual(couples(diary, name, other), chosen_in(towns, cases, name, other))

    def test_diaries_of_each_kind(self):
        for towns, notes in SMALL:
            with self.subTest(towns=towns, notes=notes):
                self.compare(towns, notes)

    def test_some_diaries(self):
        for towns, notes in some_diaries(7, 300, 4):
            with self.subTest(towns=towns, notes=notes):
                self.compare(towns, notes)

    def test_great_diaries(self):
        for towns, notes in GREAT:
            with self.subTest(towns=towns, notes=notes):
                self.compare(towns, notes)

    def test_diaries_that_are_made_of_another_one(self):
        for towns, notes in SMALL + some_diaries(3, 40, 3):
            diary = Diary(towns, [])
            for many, note in enumerate(notes):
                self.assertEqual(number_of_cases(diary), len(fitting(towns, notes[:many])))
                diary = diary.with_note(note)
            self.assertEqual(number_of_cases(diary), len(fitting(towns, notes)))
            for index in range(len(notes)):
                left = notes[:index] + notes[index + 1:]
                self.assertEqual(number_of_cases(diary.without(index)), len(fitting(towns, left)))
                self.assertEqual(quarrels(diary.without(index)), not fitting(towns, left))

    def test_three_towns_that_hang_together_with_turns_to_8(self):
        towns = [("ulm", 1, 8), ("wien", 1, 8), ("bonn", 1, 8)]
        notes = [("one", "wien", "ulm", 3), ("same", "bonn", "ulm", 10), ("none", "wien", FAR)]
        self.compare(towns, notes)
        self.compare([towns[1], towns[2], towns[0]], notes)

    def test_a_town_that_quarrels_alone(self):
        diary = Diary([("ulm", 2, 3), ("wien", 1, 2)], [("none", "ulm", 3), ("market", "wien", 0)])
        self.assertIs(quarrels(diary), False)
        late = diary.with_note(("market", "ulm", 3))
        self.assertIs(quarrels(late), True)
        self.assertEqual(number_of_cases(late), 0)
        self.assertEqual(error_of(choices, late, "wien"), (Quarrel, 0))


class KeepsTest(unittest.TestCase):

    def test_all_small_cases(self):
        for towns, notes in SMALL:
            diary = Diary(towns, notes)
            for case in fitting(towns, []):
                self.assertEqual(keeps(diary, case), not_kept(towns, notes, case))

    def test_notes_of_each_kind(self):
        towns = [("ulm", 2, 2), ("wien", 3, 3)]
        notes = [("market", "ulm", 4), ("none", "ulm", 4), ("one", "ulm", "wien", 4), ("same", "wien", "ulm", 4),
                 ("one", "wien", "ulm", FAR), ("same", "ulm", "wien", 6), ("none", "wien", FAR)]
        diary = Diary(towns, notes)
        self.assertEqual(keeps(diary, [(2, 0), (3, 1)]), [1, 2, 4, 5, 6])
        self.assertEqual(keeps(diary, [(2, 0), (3, 0)]), [1, 3])
        self.assertEqual(keeps(diary, [(2, 1), (3, 2)]), [0, 2, 4])

    def test_without_towns_or_notes(self):
        self.assertEqual(keeps(Diary([], []), []), [])
        self.assertEqual(keeps(Diary([("ulm", 1, 1)], []), [(1, 0)]), [])

    def test_a_diary_that_quarrels(self):
        self.assertEqual(keeps(QUARREL, [(2, 0), (1, 0)]), [0])
        self.assertEqual(keeps(QUARREL, [(3, 0), (2, 1)]), [1])

    def test_a_number_of_choices_that_is_not_that_of_the_towns(self):
        for many in (0, 1, 3, 7):
            self.assertEqual(error_of(keeps, PAIR, [(2, 0)] * many), (UnknownTown, many))
        self.assertEqual(error_of(keeps, Diary([], []), [(1, 0)]), (UnknownTown, 1))
        self.assertEqual(error_of(keeps, PAIR, [(9, 9), (9, 9), (9, 9)]), (UnknownTown, 3))

    def test_choices_that_towns_do_not_have(self):
        for choice in [(1, 0), (4, 0), (0, 0), (-2, 0), (2, 2), (3, 3), (2, -1), (3, -1), (FAR, 0), (0, -1)]:
            self.assertEqual(error_of(keeps, PAIR, [choice, (2, 0)]), (InvalidTown, choice))
            self.assertEqual(error_of(keeps, PAIR, [choice, (5, 5)]), (InvalidTown, choice))
        self.assertEqual(error_of(keeps, PAIR, [(3, 2), (3, 2)]), (InvalidTown, (3, 2)))
        self.assertEqual(error_of(keeps, QUARREL, [(2, 0), (3, 0)]), (InvalidTown, (3, 0)))
        for town in [("ulm", 1, 4), ("ulm", 3, 3)]:
            known = choices_of(town)
            for choice in [(turn, first) for turn in range(-1, 7) for first in range(-2, 8)]:
                told = None if choice in known else (InvalidTown, choice)
                self.assertEqual(error_of(keeps, Diary([town], []), [choice]), told)


class ErrorsTest(unittest.TestCase):

    def test_names_that_are_no_towns(self):
        for diary in (PAIR, QUARREL, Diary([], [])):
            for name in ("graz", "", "Ulm", "ulm ", "~"):
                self.assertEqual(error_of(choices, diary, name), (UnknownTown, name))
                self.assertEqual(error_of(couples, diary, name, "linz"), (UnknownTown, name))
                self.assertEqual(error_of(couples, diary, name, name), (UnknownTown, name))
        for name in ("graz", ""):
            self.assertEqual(error_of(couples, PAIR, name, "ulm"), (UnknownTown, name))
            self.assertEqual(error_of(couples, QUARREL, "ulm", name), (UnknownTown, name))

    def test_one_town_twice(self):
        for diary in (PAIR, QUARREL):
            for name in ("ulm", "wien"):
                self.assertEqual(error_of(couples, diary, name, name), (InvalidNote, name))

    def test_diaries_that_quarrel(self):
        self.assertEqual(error_of(first_case, QUARREL), (Quarrel, 0))
        for name, other in [("ulm", "wien"), ("wien", "ulm")]:
            self.assertEqual(error_of(choices, QUARREL, name), (Quarrel, 0))
            self.assertEqual(error_of(couples, QUARREL, name, other), (Quarrel, 0))
        self.assertEqual([quarrels(QUARREL), number_of_cases(QUARREL)], [True, 0])


class ListsTest(unittest.TestCase):

    def test_returned_lists_are_new(self):
        diaries = [Diary(towns, notes) for towns, notes in SMALL]
        for diary in [diary for diary in diaries if not quarrels(diary)]:
            names = diary.names()
            asks = [(first_case, ()), (keeps, (first_case(diary),))] + [(choices, (name,)) for name in names]
            asks += [(couples, (name, other)) for name in names for other in names if name != other]
            for call, rest in asks:
                told = call(diary, *rest)
                kept = deepcopy(told)
                told.append(None)
                told.reverse()
                self.assertEqual(call(diary, *rest), kept)

    def test_a_case_that_is_handed_over_is_neither_changed_nor_kept(self):
        case = [(2, 0), (2, 0)]
        told = keeps(PAIR, case)
        self.assertEqual([case, told], [[(2, 0), (2, 0)], [0]])
        case[1] = (2, 1)
        self.assertEqual([told, keeps(PAIR, case)], [[0], []])
        error_of(keeps, PAIR, case + [(1, 0)])
        self.assertEqual(case, [(2, 0), (2, 1)])

    def test_lists_of_a_diary_are_not_changed(self):
        towns, notes = list(PAIR.towns), list(PAIR.notes)
        diary = Diary(towns, notes)
        for _ in range(2):
            choices(diary, "ulm")
            couples(diary, "wien", "ulm")
            first_case(diary)
            error_of(couples, diary, "ulm", "graz")
            self.assertEqual([diary.towns, diary.notes, towns, notes], 2 * [PAIR.towns, PAIR.notes])
        towns.clear()
        notes.clear()
        self.assertEqual(couples(diary, "ulm", "wien"), [((2, 0), (2, 1)), ((3, 0), (2, 0))])

    def test_the_same_question_asked_of_two_diaries_by_turns(self):
        more = PAIR.with_note(("market", "ulm", 3))
        for _ in range(3):
            self.assertEqual(choices(PAIR, "wien"), [(2, 0), (2, 1)])
            self.assertEqual(choices(more, "wien"), [(2, 0)])
            self.assertEqual([number_of_cases(PAIR), number_of_cases(more)], [2, 1])
            self.assertEqual([first_case(PAIR), first_case(more)], [[(2, 0), (2, 1)], [(3, 0), (2, 0)]])

    def test_arguments_by_name(self):
        self.assertEqual(keeps(case=[(2, 0), (2, 0)], diary=PAIR), [0])
        self.assertIs(quarrels(diary=PAIR), False)
        self.assertEqual(first_case(diary=PAIR), [(2, 0), (2, 1)])
        self.assertEqual(choices(town="ulm", diary=PAIR), [(2, 0), (3, 0)])
        self.assertEqual(couples(other="ulm", town="wien", diary=PAIR), [((2, 0), (3, 0)), ((2, 1), (2, 0))])
        self.assertEqual(number_of_cases(diary=PAIR), 2)


if __name__ == "__main__":
    unittest.main()
