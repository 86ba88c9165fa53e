"""Tests of marketdays.needs: promises [2], [3], [6], [7], [9] and its section."""

import unittest
from copy import deepcopy
from random import Random

from marketdays.cases import choices, quarrels
from marketdays.diaries import Diary
from marketdays.errors import InvalidDay, InvalidTown, Quarrel, UnknownTown
from marketdays.needs import (alike, first_day, first_unlike, least_notes, mends, needless, quarrel_sets, reasons)
from marketdays.sure import says
from tests.raising import error_of
from tests.trying import (FAR, GREAT, SMALL, any_note, fitting, least_sets, not_kept, parts_of, some_diaries, span,
                          word_by_trying)

OPPOSITES = {"market": "none", "none": "market", "one": "same", "same": "one"}
QUARREL = Diary([("ulm", 2, 3), ("wien", 1, 2)], [("market", "wien", 3), ("none", "wien", 3), ("market", "ulm", 4)])
ULM = Diary([("ulm", 2, 4)], [("market", "ulm", 3), ("market", "ulm", 6), ("none", "ulm", 4), ("market", "ulm", 9)])
PAIR = Diary([("ulm", 2, 3), ("wien", 2, 2)], [("one", "ulm", "wien", 4), ("market", "ulm", 0), ("none", "wien", 4)])
OF_ONE = [needless, least_notes, quarrel_sets, mends]


class Tried:
    """What going through all cases and all sets of notes says of a diary."""

    def __init__(self, towns, notes):
        self.towns, self.notes = towns, notes
        self.all = fitting(towns, [])
        self.broken = [set(not_kept(towns, notes, case)) for case in self.all]
        self.fit = self.fitting(range(len(notes)))

    def fitting(self, chosen):
        """Return the cases that keep all notes with some indexes."""
        return [case for case, broken in zip(self.all, self.broken) if not broken & set(chosen)]

    def needless(self):
        return [index for index in range(len(self.notes))
                if self.fitting([other for other in range(len(self.notes)) if other != index]) == self.fit]

    def least_notes(self):
        return least_sets(len(self.notes), lambda chosen: self.fitting(chosen) == self.fit)

    def quarrel_sets(self):
        return least_sets(len(self.notes), lambda chosen: not self.fitting(chosen))

    def mends(self):
        return least_sets(len(self.notes), lambda out: self.fitting(set(range(len(self.notes))) - set(out)))

    def reasons(self, town, day):
        word = word_by_trying(self.towns, self.fit, town, day)
        if word == "open":
            return []
        return least_sets(len(self.notes),
                          lambda chosen: word_by_trying(self.towns, self.fitting(chosen), town, day) == word)


def some_pairs(seed, many):
    """Return towns and two lists of notes of some pairs of diaries, of which many let like cases fit."""
    random = Random(seed)
    made = []
    for towns, notes in some_diaries(seed, many, 3):
        names = [town[0] for town in towns]
        others = random.sample(notes, len(notes))[:random.randint(0, 6)]
        others += [any_note(random, names) for _ in range(random.randint(0, 2))]
        made.append((towns, notes, others))
    return made


class ExamplesTest(unittest.TestCase):

    def test_the_examples_of_the_section(self):
        ulm = Diary([("ulm", 2, 4)], [("market", "ulm", 3), ("market", "ulm", 6), ("none", "ulm", 4), ("market", "ulm", 9)])
        self.assertEqual(
            [needless(ulm), least_notes(ulm), quarrel_sets(ulm), quarrel_sets(ulm.with_note(("none", "ulm", 0))), alike(ulm, ulm.without(0)), first_unlike(ulm, ulm.without(0).without(0))],
            [[0, 2, 3], [[0, 1], [1, 3]], [], [[0, 1, 4], [1, 3, 4]], True, [(2, 1)]])
        self.assertEqual(
            [reasons(ulm, "ulm", 9), reasons(ulm, "ulm", 12), reasons(ulm, "ulm", 5), first_day(ulm, ulm.without(1), "ulm"), mends(ulm), mends(ulm.with_note(("none", "ulm", 0)))],
            [[[3], [0, 1]], [[0, 1], [1, 3]], [[1]], 0, [[]], [[1], [4], [0, 3]]])


class AllSetsTest(unittest.TestCase):

    def compare(self, towns, notes, days):
        diary = Diary(towns, notes)
        tried = Tried(towns, notes)
        self.assertEqual(needless(diary), tried.needless())
        self.assertEqual(least_notes(diary), tried.least_notes())
        self.assertEqual(quarrel_sets(diary), tried.quarrel_sets())
        self.assertEqual(mends(diary), tried.mends())
        for town in diary.names():
            for day in days:
                if tried.fit:
                    self.assertEqual(reasons(diary, town, day), tried.reasons(town, day))
                else:
                    self.assertEqual(error_of(reasons, diary, town, day), (Quarrel, 0))

    def test_diaries_of_each_kind(self):
        for towns, notes in SMALL:
            with self.subTest(towns=towns, notes=notes):
                self.compare(towns, notes, [0, 1, 2, 3, 4, 5, 9, FAR])

    def test_some_diaries(self):
        for towns, notes in some_diaries(31, 120, 3):
            with self.subTest(towns=towns, notes=notes):
                self.compare(towns, notes, [0, 1, 4, FAR])

    def test_some_diaries_with_many_notes_of_one_town(self):
        random = Random(32)
        for _ in range(60):
            notes = [(random.choice(["market", "none"]), "ulm", random.randint(0, 9)) for _ in range(6)]
            with self.subTest(notes=notes):
                self.compare([("ulm", 1, 6)], notes, [0, 7])

    def test_two_towns_that_hang_together_with_turns_to_8(self):
        for towns, notes in GREAT[1:]:
            diary = Diary(towns, notes)
            pair = [town for town in towns if town[0] in notes[1][1:3]]
            own = [note for note in notes if set(note[1:-1]) <= {town[0] for town in pair}]
            tried = Tried(pair, own)
            alone = Diary(pair, own)
            self.assertEqual([call(alone) for call in OF_ONE],
                             [tried.needless(), tried.least_notes(), tried.quarrel_sets(), tried.mends()])
            self.assertEqual([mends(diary), quarrel_sets(diary)], [[[]], []])
            self.assertEqual(needless(diary), [index for index, note in enumerate(notes)
                                               if note in own and own.index(note) in tried.needless()])


class GuaranteesTest(unittest.TestCase):

    def diaries(self):
        return [Diary(towns, notes) for towns, notes in SMALL + some_diaries(33, 80, 3)]

    def test_a_note_is_needless_exactly_if_some_least_set_lacks_it(self):
        for diary in self.diaries():
            sets = least_notes(diary)
            self.assertEqual(needless(diary), [index for index in range(len(diary))
                                               if [chosen for chosen in sets if index not in chosen]])

    def test_least_sets_are_the_quarrel_sets_of_a_diary_that_quarrels(self):
        seen = set()
        for diary in self.diaries():
            seen.add(quarrels(diary))
            if quarrels(diary):
                self.assertEqual(least_notes(diary), quarrel_sets(diary))
                self.assertNotEqual(quarrel_sets(diary), [])
            else:
                self.assertEqual([quarrel_sets(diary), mends(diary)], [[], [[]]])
        self.assertEqual(seen, {True, False})

    def test_mends_and_quarrel_sets_are_the_least_that_meet_each_other(self):
        for diary in self.diaries():
            out, sets = mends(diary), quarrel_sets(diary)
            self.assertEqual(out, least_sets(len(diary), lambda chosen: all(set(chosen) & set(one) for one in sets)))
            if sets:
                self.assertEqual(sets, least_sets(len(diary), lambda chosen: all(set(chosen) & set(one) for one in out)))

    def test_reasons_are_quarrel_sets_with_the_opposite_note_behind(self):
        for diary in self.diaries():
            for town in [] if quarrels(diary) else diary.names():
                for day in (0, 1, 5):
                    word = says(diary, town, day)
                    if word == "open":
                        self.assertEqual(reasons(diary, town, day), [])
                        continue
                    against = diary.with_note((OPPOSITES[word], town, day))
                    self.assertEqual(reasons(diary, town, day), [one[:-1] for one in quarrel_sets(against)])

    def test_days_later_by_one_number_change_nothing_but_the_days(self):
        for diary in self.diaries():
            later = Diary(diary.towns, [note[:-1] + (note[-1] + 7,) for note in diary.notes])
            for call in OF_ONE:
                self.assertEqual(call(later), call(diary))
            for town in [] if quarrels(diary) else diary.names():
                self.assertEqual(reasons(later, town, 10), reasons(diary, town, 3))


class TwoDiariesTest(unittest.TestCase):

    def test_alike_and_first_unlike(self):
        found = []
        for towns, notes, others in some_pairs(34, 250):
            with self.subTest(towns=towns, notes=notes, others=others):
                one, other = Diary(towns, notes), Diary(towns, others)
                fit, fits = fitting(towns, notes), fitting(towns, others)
                unlike = [case for case in fitting(towns, []) if (case in fit) != (case in fits)]
                for pair in ((one, other), (other, one)):
                    self.assertIs(alike(*pair), not unlike)
                    self.assertEqual(first_unlike(*pair), unlike[0] if unlike else None)
                    self.assertIs(alike(pair[0], pair[0]), True)
                    self.assertIsNone(first_unlike(pair[1], Diary(towns, pair[1].notes[::-1])))
                found.append((not unlike, not fit, not fits))
        self.assertGreaterEqual(len(set(found)), 5)

    def test_least_notes_are_alike(self):
        for towns, notes in SMALL + some_diaries(35, 40, 3):
            diary = Diary(towns, notes)
            for chosen in least_notes(diary):
                self.assertIs(alike(diary, Diary(towns, [notes[index] for index in chosen])), True)

    def test_the_same_cases_of_other_towns(self):
        towns = [("ulm", 2, 3), ("wien", 1, 2)]
        one = Diary(towns, [("market", "ulm", 4)])
        for others in ([("ulm", 2, 3)], towns[::-1], [("ulm", 2, 4), ("wien", 1, 2)], [("ulm", 1, 3), ("wien", 1, 2)],
                       [("ulm", 2, 3), ("bonn", 1, 2)], towns + [("bonn", 1, 1)]):
            other = Diary(others, [("market", "ulm", 4)])
            self.assertIs(alike(one, other), False)
            self.assertIs(alike(other, one), False)
            quarrel = Diary(others, [("market", "ulm", 4), ("none", "ulm", 4)])
            self.assertIs(alike(one.with_note(("none", "ulm", 4)), quarrel), False)
        self.assertIs(alike(one, Diary(list(towns), [("market", "ulm", 10), ("market", "ulm", 4)])), True)
        self.assertIs(alike(Diary([], []), one), False)

    def test_towns_in_pairs_of_two_diaries(self):
        towns = [("ulm", 2, 3), ("wien", 1, 3), ("bonn", 2, 2)]
        one, other = Diary(towns, [("one", "ulm", "wien", 4)]), Diary(towns, [("same", "wien", "bonn", 4)])
        self.assertEqual(first_unlike(one, other), [(2, 0), (1, 0), (2, 0)])
        self.assertEqual(first_unlike(other, one), [(2, 0), (1, 0), (2, 0)])
        self.assertEqual(first_unlike(one, Diary(towns, [])), [(2, 0), (1, 0), (2, 0)])
        self.assertEqual(first_unlike(one, one.with_note(("none", "ulm", 4))), [(2, 0), (2, 1), (2, 0)])

    def test_first_unlike_of_diaries_that_quarrel(self):
        free = Diary(QUARREL.towns, [("market", "ulm", 4)])
        self.assertEqual([first_unlike(QUARREL, free), first_unlike(free, QUARREL)], 2 * [[(2, 0), (1, 0)]])
        self.assertIsNone(first_unlike(QUARREL, QUARREL.with_note(("one", "ulm", "wien", 9))))
        self.assertIs(alike(QUARREL, QUARREL.without(2)), True)
        self.assertIs(alike(QUARREL, free), False)

    def test_first_day(self):
        found = set()
        for towns, notes, others in some_pairs(36, 150):
            one, other = Diary(towns, notes), Diary(towns, others)
            fit, fits = fitting(towns, notes), fitting(towns, others)
            for town in one.names():
                if not fit or not fits:
                    self.assertEqual(error_of(first_day, one, other, town), (Quarrel, 0))
                    continue
                days = [day for day in range(span(towns))
                        if word_by_trying(towns, fit, town, day) != word_by_trying(towns, fits, town, day)]
                for pair in ((one, other), (other, one)):
                    self.assertEqual(first_day(*pair, town), days[0] if days else None)
                found.add(bool(days))
        self.assertEqual(found, {True, False})

    def test_first_day_of_diaries_with_other_towns(self):
        one = Diary([("ulm", 2, 8), ("wien", 1, 1)], [("market", "ulm", 3), ("market", "ulm", 10)])
        other = Diary([("bonn", 3, 3), ("ulm", 7, 7)], [("market", "ulm", 3)])
        self.assertIsNone(first_day(one, other, "ulm"))
        self.assertEqual(first_day(one, Diary([("ulm", 8, 8)], [("market", "ulm", 3)]), "ulm"), 10)
        self.assertEqual(first_day(Diary([("ulm", 7, 7)], [("market", "ulm", 6)]),
                                   Diary([("ulm", 8, 8)], [("market", "ulm", 7)]), "ulm"), 6)
        self.assertEqual(first_day(Diary([("ulm", 7, 7)], [("market", "ulm", 6)]),
                                   Diary([("ulm", 7, 8)], [("market", "ulm", 6), ("none", "ulm", 14)]), "ulm"), None)
        self.assertEqual(first_day(Diary([("ulm", 2, 2)], []), Diary([("ulm", 2, 2), ("wien", 2, 2)], []), "ulm"), None)


class EdgesTest(unittest.TestCase):

    def test_without_towns_and_without_notes(self):
        for diary in (Diary([], []), Diary([("ulm", 1, 1)], []), Diary([("ulm", 2, 4), ("wien", 1, 3)], [])):
            self.assertEqual([call(diary) for call in OF_ONE], [[], [[]], [], [[]]])
            self.assertIs(alike(diary, Diary(diary.towns, [])), True)
            self.assertIsNone(first_unlike(diary, diary))

    def test_a_note_told_twice(self):
        diary = Diary([("ulm", 2, 3)], [("market", "ulm", 4), ("market", "ulm", 4)])
        self.assertEqual([call(diary) for call in OF_ONE], [[0, 1], [[0], [1]], [], [[]]])
        self.assertEqual([reasons(diary, "ulm", 4), reasons(diary, "ulm", 5)], [[[0], [1]], [[0], [1]]])
        more = diary.with_note(("none", "ulm", 4))
        self.assertEqual([call(more) for call in OF_ONE], [[0, 1], [[0, 2], [1, 2]], [[0, 2], [1, 2]], [[2], [0, 1]]])

    def test_a_note_that_each_case_keeps(self):
        diary = Diary([("ulm", 1, 1)], [("market", "ulm", 4)])
        self.assertEqual([call(diary) for call in OF_ONE], [[0], [[]], [], [[]]])
        self.assertEqual(reasons(diary, "ulm", 4), [[]])

    def test_a_note_that_no_case_keeps(self):
        diary = Diary([("ulm", 1, 1), ("wien", 1, 2)], [("market", "wien", 0), ("none", "ulm", 4)])
        self.assertEqual([call(diary) for call in OF_ONE], [[0], [[1]], [[1]], [[1]]])

    def test_quarrels_of_several_groups(self):
        towns = [("ulm", 2, 3), ("wien", 2, 3), ("bonn", 1, 1)]
        notes = [("market", "ulm", 3), ("none", "ulm", 3), ("market", "wien", 5), ("none", "wien", 5)]
        self.assertEqual([call(Diary(towns, notes)) for call in OF_ONE],
                         [[0, 1, 2, 3], [[0, 1], [2, 3]], [[0, 1], [2, 3]], [[0, 2], [0, 3], [1, 2], [1, 3]]])
        more = Diary(towns, notes + [("none", "bonn", 0)])
        self.assertEqual([call(more) for call in OF_ONE],
                         [[0, 1, 2, 3, 4], [[4], [0, 1], [2, 3]], [[4], [0, 1], [2, 3]],
                          [[0, 2, 4], [0, 3, 4], [1, 2, 4], [1, 3, 4]]])

    def test_sets_stand_by_their_number_then_as_lists(self):
        for towns, notes in SMALL + some_diaries(37, 80, 3):
            diary = Diary(towns, notes)
            told = [least_notes(diary), quarrel_sets(diary), mends(diary)]
            told += [reasons(diary, town, 0) for town in ([] if quarrels(diary) else diary.names())]
            for sets in told:
                self.assertEqual(sets, [chosen for chosen in parts_of(range(len(diary))) if chosen in sets])

    def test_towns_that_hang_together(self):
        self.assertEqual([call(PAIR) for call in OF_ONE], [[], [[0, 1, 2]], [], [[]]])
        self.assertEqual([reasons(PAIR, "ulm", day) for day in (0, 4, 5)], [[[1]], [[0, 2]], [[1], [0, 2]]])
        self.assertEqual([reasons(PAIR, "wien", day) for day in (4, 5)], [[[2]], [[2]]])

    def test_what_other_towns_do_has_no_bearing(self):
        diary = Diary([("ulm", 2, 3), ("wien", 2, 3)], [("market", "wien", 3), ("market", "ulm", 4), ("none", "wien", 4)])
        self.assertEqual([reasons(diary, "ulm", 5), reasons(diary, "wien", 4)], [[[1]], [[0], [2]]])

    def test_days_far_away(self):
        diary = Diary([("ulm", 7, 8)], [("market", "ulm", FAR), ("none", "ulm", FAR - 8)])
        self.assertEqual(choices(diary, "ulm"), [(7, FAR % 7)])
        self.assertEqual([reasons(diary, "ulm", FAR), reasons(diary, "ulm", FAR - 7), needless(diary)],
                         [[[0]], [[0, 1]], []])


class ErrorsTest(unittest.TestCase):

    def test_names_that_are_no_towns(self):
        for diary in (ULM, QUARREL, Diary([], [])):
            for name in ("graz", "", "Ulm", "~"):
                for day in (3, -1):
                    self.assertEqual(error_of(reasons, diary, name, day), (UnknownTown, name))
                for other in (ULM, QUARREL, Diary([], [])):
                    self.assertEqual(error_of(first_day, diary, other, name), (UnknownTown, name))
        for pair in ((ULM, QUARREL), (QUARREL, ULM), (QUARREL, Diary([], []))):
            self.assertEqual(error_of(first_day, *pair, "wien"), (UnknownTown, "wien"))

    def test_days_less_than_0(self):
        for diary in (ULM, QUARREL):
            for day in (-1, -9, -FAR):
                self.assertEqual(error_of(reasons, diary, "ulm", day), (InvalidDay, day))

    def test_diaries_that_quarrel(self):
        self.assertEqual(error_of(reasons, QUARREL, "ulm", 0), (Quarrel, 0))
        for pair in ((QUARREL, ULM), (ULM, QUARREL), (QUARREL, QUARREL)):
            self.assertEqual(error_of(first_day, *pair, "ulm"), (Quarrel, 0))

    def test_towns_that_are_not_the_same(self):
        ulm, wien, bonn = ("ulm", 2, 3), ("wien", 1, 2), ("bonn", 1, 1)
        for one, other, wrong in [([ulm], [wien], ulm), ([ulm, wien], [ulm], wien), ([ulm], [ulm, wien, bonn], wien),
                                  ([ulm, wien], [wien, ulm], ulm), ([ulm, wien], [ulm, bonn, wien], wien),
                                  ([], [bonn, ulm], bonn), ([bonn, ulm], [], bonn), ([ulm], [("ulm", 2, 4)], ulm),
                                  ([ulm], [("ulm", 1, 3)], ulm), ([wien, ulm, bonn], [wien, ("ulm", 3, 3)], ulm)]:
            self.assertEqual(error_of(first_unlike, Diary(one, []), Diary(other, [])), (InvalidTown, wrong))
            notes = [("market", one[0][0], 2), ("none", one[0][0], 2)] if one else []
            self.assertEqual(error_of(first_unlike, Diary(one, notes), Diary(other, [])), (InvalidTown, wrong))


class ListsTest(unittest.TestCase):

    def test_returned_lists_are_new_and_stand_in_one_place_alone(self):
        more = ULM.with_note(("none", "ulm", 0))
        asks = [(call, (diary,)) for call in OF_ONE for diary in (ULM, more, PAIR, Diary([], []))]
        asks += [(reasons, (ULM, "ulm", day)) for day in (9, 12, 5)]
        asks += [(first_unlike, (ULM, ULM.without(1))), (first_unlike, (PAIR, PAIR.without(0)))]
        for call, rest in asks:
            told = call(*rest)
            kept = deepcopy(told)
            sets = [one for one in told or [] if isinstance(one, list)]
            self.assertEqual(len({id(one) for one in sets}), len(sets))
            for one in sets:
                one.append(-1)
            if told is not None:
                self.assertIsInstance(told, list)
                told.append(-1)
            self.assertEqual(call(*rest), kept)

    def test_lists_of_a_diary_are_not_changed(self):
        towns, notes = list(PAIR.towns), list(PAIR.notes)
        diary = Diary(towns, notes)
        for _ in range(2):
            for call in OF_ONE:
                call(diary)
            reasons(diary, "ulm", 4)
            alike(diary, QUARREL)
            first_unlike(diary, diary.without(0))
            first_day(diary, diary.without(0), "ulm")
            error_of(first_unlike, diary, QUARREL)
            error_of(reasons, diary, "ulm", -1)
            self.assertEqual([diary.towns, diary.notes, towns, notes], 2 * [PAIR.towns, PAIR.notes])

    def test_the_same_question_asked_of_two_diaries_by_turns(self):
        more = ULM.with_note(("none", "ulm", 0))
        for _ in range(3):
            self.assertEqual([quarrel_sets(ULM), quarrel_sets(more)], [[], [[0, 1, 4], [1, 3, 4]]])
            self.assertEqual([mends(ULM), mends(more)], [[[]], [[1], [4], [0, 3]]])
            self.assertEqual([reasons(ULM, "ulm", 9), reasons(ULM.without(3), "ulm", 9)], [[[3], [0, 1]], [[0, 1]]])
            self.assertEqual([needless(more.without(4)), needless(more)], [[0, 2, 3], [0, 2, 3]])

    def test_arguments_by_name(self):
        for call in OF_ONE:
            self.assertEqual(call(diary=ULM), call(ULM))
        self.assertEqual(reasons(day=9, town="ulm", diary=ULM), [[3], [0, 1]])
        self.assertIs(alike(other=ULM, one=ULM), True)
        self.assertEqual(first_unlike(other=ULM, one=ULM.without(1)), first_unlike(ULM, ULM.without(1)))
        self.assertEqual(first_day(town="ulm", other=ULM.without(1), one=ULM), 0)


if __name__ == "__main__":
    unittest.main()
