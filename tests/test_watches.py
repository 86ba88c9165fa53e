"""Tests of marketdays.watches: promises [2], [3], [5], [7], [10] and its section."""

import unittest
from itertools import combinations, product
from math import gcd

from marketdays.cases import choices, quarrels
from marketdays.diaries import Diary
from marketdays.errors import InvalidDay, Quarrel, UnknownTown
from marketdays.watches import doubt, judge_doubt, left_behind, longest_watch, watch
from tests.raising import error_of
from tests.trying import FAR, GREAT, SMALL, choices_of, shows, some_diaries, span

QUARREL = Diary([("ulm", 2, 3), ("wien", 1, 2)], [("market", "wien", 3), ("none", "wien", 3)])
ULM = Diary([("ulm", 2, 4)], [("market", "ulm", 3)])
ONE = Diary([("ulm", 2, 2), ("wien", 1, 1)], [("market", "ulm", 4)])


def do_the_same(one, other, day, many):
    return all(shows(one, day + passed) == shows(other, day + passed) for passed in range(many))


def same_from(one, other, day):
    """Return on how many days in a row, from a day on, two unlike choices do the same."""
    many = 0
    while shows(one, day + many) == shows(other, day + many):
        many += 1
    return many


def stretch_of(one, other):
    """Return the length of the longest stretch on which two choices do the same, as [10] tells it."""
    if one[0] != other[0] and (one[1] - other[1]) % gcd(one[0], other[0]) == 0:
        return 2 * min(one[0], other[0]) - 1
    days = [day for day in range(3 * one[0] * other[0]) if shows(one, day) or shows(other, day)]
    return max(later - day for day, later in zip(days, days[1:])) - 1


def doubt_by_trying(found, every):
    """Return the doubt of some choices, from all pairs and all days."""
    rows = [(same_from(one, other, day), one, other, day)
            for one, other in combinations(found, 2) for day in range(every)]
    if not rows:
        return None
    most = max(rows)[0]
    return min((one, other, day, most) for many, one, other, day in rows if many == most)


def doubt_judged_by_trying(found, told):
    """Return True if a tuple shows a doubt, word for word as the document says."""
    one, other, day, many = told
    return (one in found and other in found and one != other and day >= 0 and many >= 0
            and do_the_same(one, other, day, many))


class ExamplesTest(unittest.TestCase):

    def test_the_examples_of_the_section(self):
        ulm = Diary([("ulm", 2, 4)], [("market", "ulm", 3)])
        self.assertEqual(
            [watch(ulm, "ulm", 0), longest_watch(ulm, "ulm"), doubt(ulm, "ulm"), left_behind(ulm, "ulm", 1, [False, False]), judge_doubt(ulm, "ulm", ((4, 3), (3, 0), 1, 5)), judge_doubt(ulm, "ulm", ((4, 3), (3, 0), 1, 6))],
            [2, 6, ((3, 0), (4, 3), 1, 5), [(3, 0), (4, 3)], True, False])


class AllDaysTest(unittest.TestCase):

    def compare(self, diary, town, every, days):
        found = choices(diary, town)
        pairs = list(combinations(found, 2))
        told = doubt(diary, town)
        self.assertEqual(told, doubt_by_trying(found, every))
        self.assertEqual(longest_watch(diary, town), 1 + told[3] if told else 0)
        if told:
            self.assertIs(judge_doubt(diary, town, told), True)
            self.assertIs(judge_doubt(diary, town, told[:3] + (told[3] + 1,)), False)
            self.assertEqual(max(stretch_of(*pair) for pair in pairs), told[3])
        for day in days:
            need = max([1 + same_from(one, other, day) for one, other in pairs], default=0)
            self.assertEqual(watch(diary, town, day), need)
            self.assertLessEqual(need, longest_watch(diary, town))
            self.compare_seen(diary, town, day, found)

    def compare_seen(self, diary, town, day, found):
        for many in (0, 1, 2, 3):
            for seen in product([True, False], repeat=many):
                left = [choice for choice in found
                        if all(shows(choice, day + passed) is shown for passed, shown in enumerate(seen))]
                self.assertEqual(left_behind(diary, town, day, list(seen)), left)

    def test_diaries_of_each_kind(self):
        for towns, notes in SMALL:
            diary = Diary(towns, notes)
            for town in [] if quarrels(diary) else diary.names():
                with self.subTest(towns=towns, notes=notes, town=town):
                    self.compare(diary, town, span(towns), [0, 1, 2, 5, FAR])

    def test_some_diaries(self):
        for towns, notes in some_diaries(51, 60, 5):
            diary = Diary(towns, notes)
            for town in [] if quarrels(diary) else diary.names():
                with self.subTest(towns=towns, notes=notes, town=town):
                    self.compare(diary, town, span(towns), [0, 3, FAR - 1])

    def test_great_diaries(self):
        for towns, notes in GREAT[1:]:
            diary = Diary(towns, notes)
            for town in diary.names():
                with self.subTest(towns=towns, notes=notes, town=town):
                    self.compare(diary, town, 60, [0, 11, FAR])

    def test_some_day_takes_the_longest_watch(self):
        for towns, notes in SMALL + some_diaries(52, 60, 6):
            diary = Diary(towns, notes)
            for town in [] if quarrels(diary) else diary.names():
                every = span([one for one in towns if one[0] == town])
                self.assertEqual(longest_watch(diary, town), max(watch(diary, town, day) for day in range(every)))

    def test_never_more_than_2_high_less_2_days(self):
        for low in range(1, 9):
            for high in range(max(2, low), 9):
                for notes in ([], [("none", "ulm", 0)], [("market", "ulm", FAR)]):
                    diary = Diary([("ulm", low, high)], notes)
                    if not quarrels(diary):
                        self.assertLessEqual(longest_watch(diary, "ulm"), 2 * high - 2)
        self.assertEqual([longest_watch(Diary([("ulm", 1, high)], []), "ulm") for high in range(1, 9)],
                         [0] + [2 * high - 2 for high in range(2, 9)])

    def test_the_longest_stretch_of_two_choices(self):
        diary = Diary([("ulm", 1, 6)], [])
        for one, other in combinations(choices_of(("ulm", 1, 6)), 2):
            for many in (stretch_of(one, other), stretch_of(one, other) + 1):
                shown = [day for day in range(60) if judge_doubt(diary, "ulm", (one, other, day, many))]
                self.assertEqual(bool(shown), many == stretch_of(one, other))


class EdgesTest(unittest.TestCase):

    def test_towns_with_one_choice(self):
        for town in ("ulm", "wien"):
            self.assertEqual([watch(ONE, town, 0), watch(ONE, town, FAR), longest_watch(ONE, town), doubt(ONE, town)],
                             [0, 0, 0, None])
            for told in [((2, 0), (2, 0), 0, 0), ((2, 0), (2, 1), 0, 0), ((1, 0), (1, 0), 3, 5), None]:
                self.assertIs(judge_doubt(ONE, town, told), False)
        self.assertEqual([left_behind(ONE, "ulm", 3, seen) for seen in ([], [False], [True], [False, True, False])],
                         [[(2, 0)], [(2, 0)], [], [(2, 0)]])

    def test_choices_that_differ_on_each_day(self):
        diary = Diary([("ulm", 2, 2)], [])
        self.assertEqual([doubt(diary, "ulm"), longest_watch(diary, "ulm"), watch(diary, "ulm", FAR)],
                         [((2, 0), (2, 1), 0, 0), 1, 1])
        for told, right in [(((2, 0), (2, 1), 0, 0), True), (((2, 1), (2, 0), FAR, 0), True),
                            (((2, 1), (2, 0), 3, 1), False), (((2, 1), (2, 0), 3, 2), False)]:
            self.assertIs(judge_doubt(diary, "ulm", told), right)

    def test_no_shown_days(self):
        self.assertEqual(left_behind(ULM, "ulm", 7, []), [(2, 1), (3, 0), (4, 3)])
        self.assertEqual(left_behind(ULM, "ulm", FAR, []), choices(ULM, "ulm"))

    def test_sixty_shown_days(self):
        for day in (0, 5, FAR):
            for choice in choices(ULM, "ulm"):
                seen = [shows(choice, day + passed) for passed in range(60)]
                self.assertEqual(left_behind(ULM, "ulm", day, seen), [choice])
                self.assertEqual(left_behind(ULM, "ulm", day, seen[:-1] + [not seen[-1]]), [])
        self.assertEqual(left_behind(ULM, "ulm", 0, [True] * 60), [])

    def test_doubts_told_in_either_order(self):
        for one, other in [((3, 0), (4, 3)), ((4, 3), (3, 0))]:
            for day, many, right in [(1, 5, True), (1, 6, False), (0, 1, False), (0, 0, True), (2, 4, True), (5, 1, True),
                                     (6, 1, False), (13, 5, True), (13, 6, False), (12 * 10 ** 29 + 1, 5, True),
                                     (1, 12, False), (1, 60, False), (1, 10 ** 9, False)]:
                self.assertIs(judge_doubt(ULM, "ulm", (one, other, day, many)), right)

    def test_doubts_with_numbers_less_than_0(self):
        for told in [((3, 0), (4, 3), -1, 0), ((3, 0), (4, 3), 1, -1), ((3, 0), (4, 3), -1, 1), ((3, 0), (4, 3), -11, 5),
                     ((3, 0), (4, 3), -FAR, -FAR), ((3, 0), (4, 3), 1, -FAR)]:
            self.assertIs(judge_doubt(ULM, "ulm", told), False)

    def test_doubts_of_choices_that_are_none(self):
        for one, other in [((3, 0), (3, 0)), ((3, 1), (4, 3)), ((3, 0), (4, 0)), ((5, 3), (4, 3)), ((0, 0), (3, 0)),
                           ((3, 0), (-3, 0)), ((0, 0), (0, 1)), ((3, 3), (3, 0)), ((6, 3), (3, 0))]:
            for day, many in [(1, 0), (0, 0), (1, 5), (4, 1)]:
                self.assertIs(judge_doubt(ULM, "ulm", (one, other, day, many)), False)

    def test_doubts_that_are_changed(self):
        seen = []
        every_choice = choices_of(("ulm", 1, 4)) + [(5, 0), (0, 0), (3, 3)]
        for diary in (ULM, Diary([("ulm", 1, 4)], []), Diary([("ulm", 2, 4)], [("none", "ulm", FAR)])):
            found = choices(diary, "ulm")
            for one, other in product(every_choice, repeat=2):
                for day, many in product([-1, 0, 1, 5, 12], [-1, 0, 1, 2, 5, 6]):
                    told = (one, other, day, many)
                    judged = judge_doubt(diary, "ulm", told)
                    self.assertIs(judged, doubt_judged_by_trying(found, told))
                    seen.append(judged)
        self.assertGreater(min(seen.count(True), seen.count(False)), 500)

    def test_the_least_choices_then_the_least_day(self):
        self.assertEqual(doubt(Diary([("ulm", 3, 4)], []), "ulm"), ((3, 0), (4, 0), 10, 5))
        self.assertEqual(doubt(Diary([("ulm", 3, 3)], []), "ulm"), ((3, 0), (3, 1), 2, 1))
        self.assertEqual(doubt(Diary([("ulm", 1, 2)], []), "ulm"), ((1, 0), (2, 0), 0, 1))
        self.assertEqual(doubt(Diary([("ulm", 1, 2)], [("none", "ulm", 0), ("market", "ulm", 1)]), "ulm"), None)
        self.assertEqual(doubt(Diary([("ulm", 1, 2)], [("market", "ulm", 1)]), "ulm"), ((1, 0), (2, 1), 1, 1))


class ErrorsTest(unittest.TestCase):

    def test_names_that_are_no_towns(self):
        for diary in (ULM, QUARREL, Diary([], [])):
            for name in ("graz", "", "Ulm", "~"):
                for call, rest in [(left_behind, (-1, [])), (left_behind, (3, [True])), (watch, (-1,)), (watch, (3,)),
                                   (longest_watch, ()), (doubt, ()), (judge_doubt, (((3, 0), (4, 3), -1, -1),))]:
                    self.assertEqual(error_of(call, diary, name, *rest), (UnknownTown, name))

    def test_days_less_than_0(self):
        for diary in (ULM, QUARREL):
            for day in (-1, -12, -FAR):
                self.assertEqual(error_of(left_behind, diary, "ulm", day, []), (InvalidDay, day))
                self.assertEqual(error_of(left_behind, diary, "ulm", day, [True, False]), (InvalidDay, day))
                self.assertEqual(error_of(watch, diary, "ulm", day), (InvalidDay, day))

    def test_diaries_that_quarrel(self):
        for town in ("ulm", "wien"):
            for call, rest in [(left_behind, (0, [])), (left_behind, (3, [True])), (watch, (3,)), (longest_watch, ()),
                               (doubt, ()), (judge_doubt, (((2, 0), (3, 0), 0, 0),)),
                               (judge_doubt, (((2, 0), (2, 0), -1, -1),))]:
                self.assertEqual(error_of(call, QUARREL, town, *rest), (Quarrel, 0))


class ListsTest(unittest.TestCase):

    def test_returned_lists_are_new(self):
        told = left_behind(ULM, "ulm", 1, [False, False])
        again = left_behind(ULM, "ulm", 1, [False, False])
        self.assertIsNot(told, again)
        told.append((9, 9))
        self.assertEqual([again, left_behind(ULM, "ulm", 1, [False, False])], 2 * [[(3, 0), (4, 3)]])
        self.assertIsInstance(doubt(ULM, "ulm"), tuple)

    def test_lists_that_are_handed_over_are_neither_changed_nor_kept(self):
        seen = [False, False]
        told = left_behind(ULM, "ulm", 1, seen)
        error_of(left_behind, ULM, "ulm", -1, seen)
        self.assertEqual(seen, [False, False])
        seen.append(True)
        self.assertEqual([told, left_behind(ULM, "ulm", 1, seen), left_behind(ULM, "ulm", 0, seen)],
                         [[(3, 0), (4, 3)], [(3, 0), (4, 3)], []])

    def test_lists_of_a_diary_are_not_changed(self):
        towns, notes = list(ULM.towns), list(ULM.notes)
        diary = Diary(towns, notes)
        for _ in range(2):
            for call in (doubt, longest_watch):
                call(diary, "ulm")
            watch(diary, "ulm", 3)
            left_behind(diary, "ulm", 3, [True])
            self.assertEqual([diary.towns, diary.notes, towns, notes], 2 * [ULM.towns, ULM.notes])

    def test_the_same_question_asked_of_two_diaries_by_turns(self):
        more = ULM.with_note(("none", "ulm", 0))
        for _ in range(3):
            self.assertEqual([longest_watch(ULM, "ulm"), longest_watch(more, "ulm")], [6, 4])
            self.assertEqual([watch(ULM, "ulm", 0), watch(more, "ulm", 0)], [2, 2])
            self.assertEqual([doubt(ULM, "ulm"), doubt(more, "ulm")], [((3, 0), (4, 3), 1, 5), ((2, 1), (4, 3), 2, 3)])
            self.assertEqual(doubt(more.without(1), "ulm"), doubt(ULM, "ulm"))

    def test_arguments_by_name(self):
        self.assertEqual(left_behind(seen=[False, False], day=1, town="ulm", diary=ULM), [(3, 0), (4, 3)])
        self.assertEqual([watch(day=0, town="ulm", diary=ULM), longest_watch(town="ulm", diary=ULM)], [2, 6])
        self.assertIs(judge_doubt(told=doubt(town="ulm", diary=ULM), town="ulm", diary=ULM), True)


if __name__ == "__main__":
    unittest.main()
