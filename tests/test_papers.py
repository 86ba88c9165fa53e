"""Tests of marketdays.papers: promises [2], [3], [7] and its section."""

import unittest
from copy import deepcopy
from itertools import product

from marketdays.cases import quarrels
from marketdays.diaries import Diary
from marketdays.errors import InvalidDay, Quarrel, UnknownTown
from marketdays.papers import judge_paper, paper
from marketdays.sure import says
from tests.raising import error_of
from tests.trying import (FAR, GREAT, SMALL, choices_of, fitting, group_by_steps, keeps_note, shows, some_diaries)

BONN = Diary([("bonn", 1, 2)], [("none", "bonn", 4)])
QUARREL = Diary([("ulm", 2, 3), ("wien", 1, 2)], [("market", "wien", 3), ("none", "wien", 3)])
# Ulm and wien hang together, bonn, which stands between them, is alone.
THREE = Diary([("wien", 1, 2), ("bonn", 1, 3), ("ulm", 2, 3)],
              [("none", "bonn", 5), ("one", "ulm", "wien", 0), ("market", "ulm", 0), ("none", "ulm", 1)])
WORDS = ["market", "none", "open"]


def group_lots(diary, town):
    """Return the towns of a town's group, and all their lots of choices, ascending."""
    names = group_by_steps(diary.towns, diary.notes, town)
    towns = [one for one in diary.towns if one[0] in names]
    return names, sorted(list(lot) for lot in product(*[choices_of(one) for one in towns]))


def reasons_against(diary, names, lot):
    """Return the indexes of the notes of a group that a lot of its choices does not keep."""
    chosen = dict(zip(names, lot))
    return [index for index, note in enumerate(diary.notes)
            if set(note[1:-1]) <= set(names) and not keeps_note(chosen, note)]


def paper_by_trying(diary, town, day):
    """Return the paper of a town and a day, from all lots of choices."""
    names, lots = group_lots(diary, town)
    market = [lot for lot in lots if shows(lot[names.index(town)], day)]
    none = [lot for lot in lots if lot not in market]
    fit = [lot for lot in lots if not reasons_against(diary, names, lot)]
    with_market = [lot for lot in fit if lot in market]
    without = [lot for lot in fit if lot in none]
    if with_market and without:
        return [(lot, None) for lot in sorted([with_market[0], without[0]])]
    return [(lot, reasons_against(diary, names, lot)[0]) for lot in (none if with_market else market)]


def judged_by_trying(diary, town, day, word, told):
    """Return True if rows show a word, word for word as the document says."""
    names, lots = group_lots(diary, town)
    if word not in WORDS:
        return False
    rows = [(lot, why, lot in lots and shows(lot[names.index(town)], day)) for lot, why in told]
    if word == "open":
        return (len(rows) == 2 and sorted(row[2] for row in rows) == [False, True]
                and all(why is None and lot in lots and not reasons_against(diary, names, lot) for lot, why, _ in rows))
    wrong = [lot for lot in lots if shows(lot[names.index(town)], day) == (word == "none")]
    return (all([row[0] for row in rows].count(lot) == 1 for lot in wrong) and len(rows) == len(wrong)
            and all(why in reasons_against(diary, names, lot) for lot, why, _ in rows))


def changed(rows):
    """Return papers that are a bit unlike a paper, and the paper itself in other orders."""
    made = [rows[::-1], rows[1:] + rows[:1], rows + rows[:1], rows + rows, []]
    made += [rows[:at] + rows[at + 1:] for at in range(min(4, len(rows)))]
    made += [rows[:at] + [rows[0]] + rows[at + 1:] for at in range(1, min(4, len(rows)))]
    for at in range(min(4, len(rows))):
        lot, why = rows[at]
        others = [(lot, other) for other in [None, -1, -2, 0, 1, 2, 3, 4, 9, FAR, -FAR]]
        others += [([], why), (lot + lot[:1], why), (lot[1:], why), (lot[::-1], why)]
        others += [([choice] + lot[1:], why) for choice in [(0, 0), (-1, 0), (9, 0), (2, 2), (2, -1), (1, 0), (2, 1)]]
        made += [rows[:at] + [other] + rows[at + 1:] for other in others]
        made.append(rows + [([(0, 0)] * len(lot), why)])
    return made


class ExamplesTest(unittest.TestCase):

    def test_the_examples_of_the_section(self):
        bonn = Diary([("bonn", 1, 2)], [("none", "bonn", 4)])
        self.assertEqual(
            [paper(bonn, "bonn", 6), paper(bonn, "bonn", 5), judge_paper(bonn, "bonn", 6, "none", paper(bonn, "bonn", 6)), judge_paper(bonn, "bonn", 5, "market", []), judge_paper(bonn, "bonn", 5, "open", [])],
            [[([(1, 0)], 0), ([(2, 0)], 0)], [([(2, 0)], 0)], True, False, False])


class PaperTest(unittest.TestCase):

    def compare(self, towns, notes, days):
        diary = Diary(towns, notes)
        for town in [] if not fitting(towns, notes) else diary.names():
            for day in days:
                self.assertEqual(paper(diary, town, day), paper_by_trying(diary, town, day))

    def test_diaries_of_each_kind(self):
        for towns, notes in SMALL:
            with self.subTest(towns=towns, notes=notes):
                self.compare(towns, notes, [0, 1, 2, 3, 4, 5, 9, FAR])

    def test_some_diaries(self):
        for towns, notes in some_diaries(21, 60, 3):
            with self.subTest(towns=towns, notes=notes):
                self.compare(towns, notes, [0, 3, FAR])

    def test_two_towns_that_hang_together_with_turns_to_8(self):
        diary = Diary(*GREAT[1])
        for town, day in [("ulm", 3), ("wien", 0), ("bonn", 17)]:
            told = paper(diary, town, day)
            self.assertEqual(told, paper_by_trying(diary, town, day))
            self.assertIs(judge_paper(diary, town, day, says(diary, town, day), told), True)
        self.assertEqual(len(paper(diary, "ulm", 3)), 36 * 8)

    def test_rows_of_each_word(self):
        self.assertEqual(paper(THREE, "ulm", 1),
                         [([(1, 0), (2, 1)], 2), ([(1, 0), (3, 1)], 2), ([(2, 0), (2, 1)], 2), ([(2, 0), (3, 1)], 2),
                          ([(2, 1), (2, 1)], 1), ([(2, 1), (3, 1)], 1)])
        self.assertEqual(paper(THREE, "wien", 3),
                         [([(2, 0), (2, 0)], 1), ([(2, 0), (2, 1)], 2), ([(2, 0), (3, 0)], 1), ([(2, 0), (3, 1)], 2),
                          ([(2, 0), (3, 2)], 2)])
        self.assertEqual([paper(THREE, "ulm", day) for day in (2, 3)],
                         2 * [[([(2, 1), (2, 0)], None), ([(2, 1), (3, 0)], None)]])
        self.assertEqual(paper(THREE, "bonn", 0), [([(2, 0)], None), ([(3, 1)], None)])
        self.assertEqual(paper(THREE, "bonn", FAR + 1), [([(1, 0)], 0), ([(2, 1)], 0), ([(3, 2)], 0)])

    def test_a_town_of_turn_1_has_a_paper_without_rows(self):
        diary = Diary([("ulm", 1, 1)], [])
        for day in (0, 7, FAR):
            self.assertEqual(paper(diary, "ulm", day), [])
            self.assertEqual([judge_paper(diary, "ulm", day, word, []) for word in WORDS], [True, False, False])

    def test_the_first_note_that_is_not_kept(self):
        diary = Diary([("ulm", 2, 2)], [("market", "ulm", 4), ("none", "ulm", 3), ("market", "ulm", 4)])
        self.assertEqual(paper(diary, "ulm", 1), [([(2, 1)], 0)])
        self.assertEqual(paper(diary.without(0), "ulm", 1), [([(2, 1)], 0)])
        self.assertEqual([judge_paper(diary, "ulm", 1, "none", [([(2, 1)], why)]) for why in (0, 1, 2, 3)],
                         [True, True, True, False])

    def test_towns_that_hang_together_in_several_steps(self):
        towns = [("ulm", 2, 2), ("wien", 2, 2), ("bonn", 2, 2)]
        diary = Diary(towns, [("one", "wien", "ulm", 0), ("one", "wien", "bonn", 5), ("market", "bonn", 0)])
        odd, even = (2, 1), (2, 0)
        rows = [([odd, even, even], 1), ([odd, even, odd], 2), ([odd, odd, even], 0), ([odd, odd, odd], 0)]
        self.assertEqual(paper(diary, "ulm", 1), rows)
        self.assertIs(judge_paper(diary, "ulm", 1, "none", rows), True)
        self.assertEqual([len(paper(diary, "wien", day)) for day in (0, 1)], [4, 4])
        self.assertEqual(paper(Diary(towns, diary.notes[1:]), "ulm", 1), [([even], None), ([odd], None)])


class JudgeTest(unittest.TestCase):

    def judge(self, diary, town, day):
        """Judge the paper of a town and a day, and papers that are a bit unlike it, by all words."""
        word = says(diary, town, day)
        told = paper(diary, town, day)
        self.assertIs(judge_paper(diary, town, day, word, told), True)
        for rows in [told] + changed(told):
            for other in WORDS + ["", "opens", "Market", "surely", "none "]:
                judged = judge_paper(diary, town, day, other, rows)
                self.assertIs(judged, judged_by_trying(diary, town, day, other, rows), (other, rows))
        for other in (0, 1, 2, 3):
            rows = paper(diary, town, other)
            self.assertIs(judge_paper(diary, town, day, word, rows), judged_by_trying(diary, town, day, word, rows))

    def test_papers_that_are_changed(self):
        for towns, notes in SMALL:
            diary = Diary(towns, notes)
            for town in [] if quarrels(diary) else diary.names():
                for day in (0, 3, FAR):
                    with self.subTest(towns=towns, notes=notes, town=town, day=day):
                        self.judge(diary, town, day)

    def test_papers_of_some_diaries_that_are_changed(self):
        for towns, notes in some_diaries(22, 30, 3):
            diary = Diary(towns, notes)
            for town in [] if quarrels(diary) else diary.names():
                with self.subTest(towns=towns, notes=notes, town=town):
                    self.judge(diary, town, 3)

    def test_rows_in_any_order_and_with_any_note_that_is_not_kept(self):
        rows = [([(2, 1), (3, 1)], 1), ([(2, 0), (2, 1)], 3), ([(1, 0), (3, 1)], 2), ([(1, 0), (2, 1)], 3),
                ([(2, 0), (3, 1)], 2), ([(2, 1), (2, 1)], 3)]
        self.assertIs(judge_paper(THREE, "ulm", 1, "none", rows), True)
        for at in range(6):
            self.assertIs(judge_paper(THREE, "ulm", 1, "none", rows[:at] + rows[at + 1:]), False)
            self.assertIs(judge_paper(THREE, "ulm", 1, "none", rows + [rows[at]]), False)
            # The note 0 is of another group, there is no note 4, and -1 is no index.
            for why in (0, 4, -1, -2, None, FAR):
                wrong = rows[:at] + [(rows[at][0], why)] + rows[at + 1:]
                self.assertIs(judge_paper(THREE, "ulm", 1, "none", wrong), False)

    def test_notes_that_are_kept(self):
        rows = paper(THREE, "ulm", 1)
        self.assertEqual(rows[0], ([(1, 0), (2, 1)], 2))
        self.assertIs(judge_paper(THREE, "ulm", 1, "none", [([(1, 0), (2, 1)], 1)] + rows[1:]), False)
        self.assertIs(judge_paper(THREE, "ulm", 1, "none", [([(1, 0), (2, 1)], 3)] + rows[1:]), True)

    def test_choices_that_no_town_has(self):
        rows = paper(THREE, "ulm", 1)
        for choice in [(0, 0), (3, 0), (2, 2), (2, -1), (-1, 0), (FAR, 0)]:
            for word in WORDS:
                self.assertIs(judge_paper(THREE, "ulm", 1, word, [([choice, (2, 1)], 2)] + rows[1:]), False)
                self.assertIs(judge_paper(THREE, "ulm", 1, word, rows + [([choice, (2, 1)], 2)]), False)
                self.assertIs(judge_paper(THREE, "ulm", 2, word, [([choice, (2, 0)], None), ([(2, 1), (3, 0)], None)]),
                              False)

    def test_open(self):
        market, none = ([(2, 1), (2, 0)], None), ([(2, 1), (3, 0)], None)
        for rows in ([market, none], [none, market]):
            self.assertIs(judge_paper(THREE, "ulm", 2, "open", rows), True)
            self.assertIs(judge_paper(THREE, "ulm", 1, "open", rows), False)
            self.assertIs(judge_paper(THREE, "ulm", 2, "market", rows), False)
            self.assertIs(judge_paper(THREE, "ulm", 2, "none", rows), False)
        for rows in ([market, market], [none, none], [market], [none], [], [market, none, none], [none, market, market],
                     [market, (none[0], 0)], [market, (none[0], -1)], [(market[0], 2), none],
                     [market, ([(2, 0), (3, 0)], None)], [market, ([(2, 1), (3, 1)], None)],
                     [market, ([(2, 1)], None)], [market, ([], None)], [market, ([(2, 1), (2, 1), (3, 0)], None)]):
            self.assertIs(judge_paper(THREE, "ulm", 2, "open", rows), False)

    def test_open_needs_no_least_lots(self):
        diary = Diary([("ulm", 2, 8)], [])
        for market in [(2, 0), (3, 2), (8, 6), (6, 2)]:
            for none in [(2, 1), (3, 0), (8, 7), (7, 0)]:
                rows = [([market], None), ([none], None)]
                self.assertEqual([judge_paper(diary, "ulm", 14, word, rows) for word in WORDS],
                                 [False, False, market[1] == 14 % market[0] and none[1] != 14 % none[0]])

    def test_words_other_than_the_three(self):
        for word in ("", "Market", "market ", "nones", "surely", "never", "~", "a" * 3000):
            for day in (0, 1, 2):
                self.assertIs(judge_paper(THREE, "ulm", day, word, paper(THREE, "ulm", day)), False)
                self.assertIs(judge_paper(THREE, "ulm", day, word, []), False)

    def test_1296_rows(self):
        diary = Diary([("ulm", 1, 8), ("wien", 1, 8)], [("same", "ulm", "wien", 0), ("none", "ulm", FAR)])
        rows = paper(diary, "wien", 0)
        many = [([one, other], 0) for one, other in product(*[choices_of(town) for town in diary.towns])]
        self.assertEqual(len(many), 1296)
        self.assertIs(judge_paper(diary, "wien", 0, says(diary, "wien", 0), rows), True)
        for word in WORDS:
            self.assertIs(judge_paper(diary, "wien", 0, word, many), False)


class ErrorsTest(unittest.TestCase):

    def errors(self, diary, town, day, told):
        self.assertEqual(error_of(paper, diary, town, day), told)
        for word in WORDS + ["", "x"]:
            for rows in ([], [([(0, 0)], -1)], [([], None), ([], None)]):
                self.assertEqual(error_of(judge_paper, diary, town, day, word, rows), told)

    def test_names_that_are_no_towns(self):
        for diary in (THREE, QUARREL, Diary([], [])):
            for name in ("graz", "", "Ulm", "ulm "):
                self.errors(diary, name, 3, (UnknownTown, name))
                self.errors(diary, name, -1, (UnknownTown, name))

    def test_days_less_than_0(self):
        for diary in (THREE, QUARREL):
            for day in (-1, -8, -FAR):
                self.errors(diary, "ulm", day, (InvalidDay, day))

    def test_diaries_that_quarrel(self):
        for name in ("ulm", "wien"):
            for day in (0, 3, FAR):
                self.errors(QUARREL, name, day, (Quarrel, 0))


class ListsTest(unittest.TestCase):

    def test_returned_lists_are_new_and_stand_in_one_place_alone(self):
        for town in THREE.names():
            for day in range(6):
                told = paper(THREE, town, day)
                kept = deepcopy(told)
                lots = [lot for lot, _ in told]
                self.assertEqual(len({id(lot) for lot in lots}), len(lots))
                self.assertIsInstance(told, list)
                self.assertEqual({(type(row), type(row[0])) for row in told}, {(tuple, list)})
                for lot in lots:
                    lot.append((1, 0))
                told.append(None)
                self.assertEqual(paper(THREE, town, day), kept)

    def test_lists_that_are_handed_over_are_neither_changed_nor_kept(self):
        rows = paper(THREE, "ulm", 1)[::-1]
        kept = deepcopy(rows)
        for word in WORDS:
            judge_paper(THREE, "ulm", 1, word, rows)
            error_of(judge_paper, THREE, "ulm", -1, word, rows)
            self.assertEqual(rows, kept)
        self.assertIs(judge_paper(THREE, "ulm", 1, "none", rows), True)
        rows[0][0].append((2, 1))
        self.assertIs(judge_paper(THREE, "ulm", 1, "none", rows), False)
        self.assertIs(judge_paper(THREE, "ulm", 1, "none", kept), True)
        rows[0][0].pop()
        self.assertIs(judge_paper(THREE, "ulm", 1, "none", rows), True)

    def test_lists_of_a_diary_are_not_changed(self):
        towns, notes = list(THREE.towns), list(THREE.notes)
        diary = Diary(towns, notes)
        for day in (1, 2):
            paper(diary, "ulm", day)
            judge_paper(diary, "ulm", day, "open", paper(diary, "ulm", day))
            error_of(paper, diary, "graz", day)
            self.assertEqual([diary.towns, diary.notes, towns, notes], 2 * [THREE.towns, THREE.notes])

    def test_the_same_question_asked_of_two_diaries_by_turns(self):
        more = THREE.with_note(("none", "ulm", 2))
        for _ in range(3):
            self.assertEqual(len(paper(THREE, "ulm", 2)), 2)
            self.assertEqual(paper(more, "ulm", 2), paper_by_trying(more, "ulm", 2))
            self.assertEqual([judge_paper(one, "ulm", 2, "none", paper(more, "ulm", 2)) for one in (THREE, more)],
                             [False, True])
            self.assertEqual(paper(more.without(4), "ulm", 2), paper(THREE, "ulm", 2))

    def test_arguments_by_name(self):
        rows = paper(day=6, town="bonn", diary=BONN)
        self.assertEqual(rows, [([(1, 0)], 0), ([(2, 0)], 0)])
        self.assertIs(judge_paper(told=rows, word="none", day=6, town="bonn", diary=BONN), True)


if __name__ == "__main__":
    unittest.main()
