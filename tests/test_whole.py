"""Tests of what the document promises over the whole program: points [2], [3], [8], [9] and [10] over all modules."""

import unittest
from copy import deepcopy
from itertools import combinations, permutations
from math import gcd, lcm

from marketdays import cases, journeys, needs, papers, sure, texts, visits, watches
from marketdays.books import Book
from marketdays.diaries import Diary
from marketdays.lots import has, less, met
from marketdays.readings import read_diary, read_lot
from tests.raising import error_of
from tests.trying import FAR, SMALL, some_diaries

DAYS = [3, 4, 0, 6, 4]
OPPOSITES = {"market": "none", "none": "market", "one": "same", "same": "one"}
CHAINED = [("ulm", 1, 3), ("wien", 2, 3), ("bonn", 2, 2)]
ROADS = [
    (CHAINED, [("one", "ulm", "wien", 4), ("none", "bonn", 3), ("market", "ulm", 6)]),
    (CHAINED, [("one", "ulm", "wien", 4), ("none", "bonn", 3)]),
    (CHAINED, [("same", "wien", "bonn", FAR), ("none", "ulm", 3)]),
    (CHAINED[::-1], [("one", "ulm", "wien", 4), ("none", "bonn", 3)]),
    ([("ulm", 2, 4), ("wien", 2, 3)], [("one", "ulm", "wien", 4), ("none", "ulm", 3)]),
    ([("ulm", 2, 4)], []),
    ([], []),
]


def asks_of(diary):
    """Return questions of all modules to a diary: calls with their arguments, wrong ones among them."""
    names = diary.names()
    other = Diary(diary.towns, diary.notes[:-1])
    asks = [(call, (diary,)) for call in (cases.quarrels, cases.first_case, cases.number_of_cases, needs.needless,
                                          needs.least_notes, needs.quarrel_sets, needs.mends, texts.show_diary)]
    asks += [(call, (diary, other)) for call in (needs.alike, needs.first_unlike)]
    asks += [(cases.keeps, (diary, [(town[1], 0) for town in diary.towns])), (cases.keeps, (diary, [(0, 0)]))]
    for name in names + ["graz"]:
        for call in (cases.choices, sure.sure, sure.never, sure.open_days, watches.doubt, watches.longest_watch):
            asks.append((call, (diary, name)))
        for call in (sure.says, sure.latest, papers.paper, needs.reasons, visits.left, watches.watch):
            asks += [(call, (diary, name, day)) for day in (5, FAR, -1)]
        asks += [(sure.markets, (diary, name, 2, FAR)), (sure.follows, (diary, ("market", name, 3)))]
        asks += [(needs.first_day, (diary, other, name)), (visits.best_visit, (diary, name, DAYS))]
        asks += [(watches.left_behind, (diary, name, 1, [False, True]))]
        for goal in ("choice", "turn", 7, -1):
            asks += [(call, (diary, name, DAYS, goal)) for call in (visits.visits, visits.plan)]
            asks += [(visits.hold, (diary, name, DAYS, many, goal)) for many in (0, 2, -1)]
    for one, second in permutations(names + ["graz"], 2):
        for call in (cases.couples, sure.both, sure.apart, sure.alike_days, sure.unlike_days, sure.either, sure.meeting):
            asks.append((call, (diary, one, second)))
        asks += [(sure.latest_meeting, (diary, one, second, 5)), (sure.follows, (diary, ("one", one, second, 3)))]
    for order in ([], names, names[::-1], names[:1] * 2, ["graz"]):
        for call in (journeys.journey, journeys.best_order, journeys.chosen_journey, journeys.travel):
            asks += [(call, (diary, order, day)) for day in (3, -1)]
    return asks + asks_of_judges(diary)


def asks_of_judges(diary):
    """Return questions whether what a diary tells is right, where it tells anything."""
    asks = []
    if cases.quarrels(diary):
        return asks
    for name in diary.names():
        word, told = sure.says(diary, name, 5), papers.paper(diary, name, 5)
        asks.append((papers.judge_paper, (diary, name, 5, word, told)))
        asks.append((visits.judge_plan, (diary, name, visits.plan(diary, name, DAYS, "choice"), "choice")))
        asks.append((visits.judge_hold, (diary, name, DAYS, 1, visits.hold(diary, name, DAYS, 1, "turn"), "turn")))
        asks.append((watches.judge_doubt, (diary, name, watches.doubt(diary, name))))
    names = diary.names()
    told, most = journeys.travel(diary, names, 3), journeys.chosen_journey(diary, names, 3)
    return asks + [(journeys.judge_travel, (diary, names, 3, told, many)) for many in (most, max(0, most - 1))]


def answer_of(call, rest):
    """Return what a call answers, or the error that it raises."""
    wrong = error_of(call, *rest)
    return wrong if wrong else (None, call(*rest))


def lists_in(told):
    """Return all lists in what is told, from the outermost on, each as often as it stands there."""
    if not isinstance(told, (list, tuple)):
        return []
    return [told] * isinstance(told, list) + [one for part in told for one in lists_in(part)]


def roads_to(towns, notes):
    """Return a diary by each road on which it is made, each anew."""
    made = Diary(list(towns), list(notes))
    by_notes = Diary(towns, [])
    for note in notes:
        by_notes = by_notes.with_note(note)
    more = made
    for name in made.names()[:1]:
        more = Diary(towns, [("none", name, 1)] + notes).without(0)
    found = [made, by_notes, more, read_diary(texts.show_diary(made))]
    if not cases.quarrels(made):
        book = Book(towns)
        for note in notes:
            book(note)
        for name in made.names()[:1]:
            error_of(book, ("market", name, 1))
            if len(book) > len(notes):
                book.undo()
        found.append(book.diary)
    return found


class RoadsTest(unittest.TestCase):

    def test_a_diary_by_any_road_answers_as_one_constructed_just_now(self):
        for towns, notes in ROADS + SMALL[4:6]:
            told = [answer_of(*ask) for ask in asks_of(Diary(towns, notes))]
            roads = roads_to(towns, notes)
            self.assertGreaterEqual(len(roads), 4)
            for diary in roads:
                self.assertTrue(diary == Diary(towns, notes))
                for _ in range(2):
                    self.assertEqual([answer_of(*ask) for ask in asks_of(diary)], told)

    def test_the_same_questions_asked_of_several_diaries_by_turns(self):
        alone = [[answer_of(*ask) for ask in asks_of(Diary(towns, notes))] for towns, notes in ROADS]
        diaries = [Diary(towns, notes) for towns, notes in ROADS]
        asks = [asks_of(diary) for diary in diaries]
        told = [[] for _ in diaries]
        for at in range(max(len(one) for one in asks)):
            for own, found in zip(asks, told):
                if at < len(own):
                    found.append(answer_of(*own[at]))
        self.assertEqual(told, alone)

    def test_a_diary_made_of_one_that_was_asked(self):
        for towns, notes in ROADS[:5]:
            diary = Diary(towns, notes)
            for ask in asks_of(diary):
                answer_of(*ask)
            for made, own in [(diary.with_note(("none", "ulm", 1)), notes + [("none", "ulm", 1)]), (diary.without(0), notes[1:])]:
                self.assertEqual([answer_of(*ask) for ask in asks_of(made)],
                                 [answer_of(*ask) for ask in asks_of(Diary(towns, own))])


class ListsTest(unittest.TestCase):

    def test_lists_that_are_returned_are_new_and_stand_in_one_place_alone(self):
        for towns, notes in ROADS:
            diary = Diary(towns, notes)
            for call, rest in asks_of(diary):
                first, again = answer_of(call, rest), answer_of(call, rest)
                kept = deepcopy(first)
                lists = lists_in(first) + lists_in(again) + lists_in(list(rest)) + [diary._towns, diary._notes]
                self.assertEqual(len({id(one) for one in lists}), len(lists), call)
                for one in lists_in(first):
                    one.append("spoiled")
                self.assertEqual([answer_of(call, rest), again], [kept, kept])
            self.assertTrue(diary == Diary(towns, notes))

    def test_lists_that_are_handed_over_are_neither_changed_nor_kept(self):
        for towns, notes in ROADS:
            own, told = list(towns), list(notes)
            diary = Diary(own, told)
            own.append(("linz", 1, 1))
            told.append(("none", "ulm", 1))
            for call, rest in asks_of(diary):
                kept = deepcopy([part for part in rest if isinstance(part, (list, tuple))])
                answer = answer_of(call, rest)
                self.assertEqual([part for part in rest if isinstance(part, (list, tuple))], kept)
                copy = deepcopy(rest[1:])
                self.assertEqual(answer_of(call, (diary,) + copy), answer)
                for one in lists_in(copy):
                    one.clear()
                self.assertEqual(answer_of(call, rest), answer)
            self.assertTrue(diary == Diary(towns, notes))


class GuaranteesTest(unittest.TestCase):

    def diaries(self, seed):
        """Return diaries that do not quarrel."""
        found = [Diary(towns, notes) for towns, notes in SMALL + some_diaries(seed, 60, 4)]
        return [diary for diary in found if not cases.quarrels(diary)]

    def test_a_note_parts_the_cases(self):
        for diary in self.diaries(91):
            notes = [(kind, name, 5) for name in diary.names() for kind in ("market", "none")]
            notes += [(kind, one, other, 5) for one, other in permutations(diary.names(), 2) for kind in ("one", "same")]
            for note in notes:
                parts = [diary.with_note(made) for made in (note, (OPPOSITES[note[0]],) + note[1:])]
                numbers = [cases.number_of_cases(part) for part in parts]
                self.assertEqual(sum(numbers), cases.number_of_cases(diary))
                word = sure.follows(diary, note)
                self.assertEqual(word, {(False, True): "surely", (True, False): "never", (False, False): "open"}[
                    (numbers[0] == 0, numbers[1] == 0)])
                self.assertEqual(needs.alike(diary, parts[0]), word == "surely")
                book = Book(diary.towns)
                for own in diary.notes:
                    book(own)
                self.assertIs(book.fresh(note), word != "surely")
                self.assertEqual(answer_of(book, (note,))[1], numbers[0] if numbers[0] else note)

    def test_two_sure_days_leave_turns_that_divide_their_distance(self):
        for day, later in [(0, 6), (3, 7), (FAR, FAR + 4), (5, 5 + 12)]:
            diary = Diary([("ulm", 1, 8)], [("market", "ulm", day), ("market", "ulm", later)])
            self.assertEqual([turn for turn, _ in cases.choices(diary, "ulm")],
                             [turn for turn in range(1, 9) if (later - day) % turn == 0])

    def test_sure_days_exactly_if_each_two_choices_have_a_day_in_common(self):
        seen = set()
        for diary in self.diaries(92):
            for town in diary.names():
                found = cases.choices(diary, town)
                common = all((one[1] - other[1]) % gcd(one[0], other[0]) == 0 for one, other in combinations(found, 2))
                every, rests = sure.sure(diary, town)
                self.assertEqual(len(rests), 1 if common else 0)
                self.assertEqual(every, lcm(*[turn for turn, _ in found]) if common else 1)
                seen.add(common)
        self.assertEqual(seen, {True, False})

    def test_sure_days_of_two_towns_are_those_of_both(self):
        for diary in self.diaries(93):
            for one, other in permutations(diary.names(), 2):
                self.assertEqual(sure.both(diary, one, other), met(sure.sure(diary, one), sure.sure(diary, other)))
                self.assertEqual(less(sure.both(diary, one, other), sure.alike_days(diary, one, other)), (1, []))

    def test_towns_that_do_not_hang_together_have_no_bearing_on_each_other(self):
        own = Diary([("ulm", 2, 3), ("wien", 1, 3)], [("one", "ulm", "wien", 4), ("none", "wien", 6)])
        more = Diary([("bonn", 2, 4)] + own.towns + [("graz", 1, 2)],
                     [("market", "graz", 3), ("one", "ulm", "wien", 4), ("none", "bonn", 7), ("none", "wien", 6)])
        calls = [(sure.says, (5,)), (sure.sure, ()), (sure.never, ()), (cases.choices, ()), (visits.left, (5,)),
                 (visits.visits, ([0, 1, 2, 3, 5], "choice")), (visits.plan, ([0, 1, 2, 3], "turn")), (watches.doubt, ()),
                 (watches.watch, (7,)), (watches.longest_watch, ())]
        for town in own.names():
            for call, rest in calls:
                self.assertEqual(call(own, town, *rest), call(more, town, *rest))
            self.assertEqual([lot for lot, _ in papers.paper(own, town, 5)], [lot for lot, _ in papers.paper(more, town, 5)])
            self.assertIsNone(needs.first_day(own, more, town))
        names = ["wien", "ulm"]
        for call in (journeys.journey, journeys.best_order, journeys.chosen_journey, journeys.travel):
            self.assertEqual(call(own, names, 3), call(more, names, 3))

    def test_all_days_later_by_one_number(self):
        for diary in self.diaries(94):
            for later in (1, 5, FAR):
                moved = Diary(diary.towns, [note[:-1] + (note[-1] + later,) for note in diary.notes])
                for town in diary.names():
                    self.assertEqual(cases.choices(moved, town),
                                     sorted((turn, (first + later) % turn) for turn, first in cases.choices(diary, town)))
                    for call in (sure.says, sure.latest, visits.left, watches.watch, needs.reasons):
                        self.assertEqual([call(moved, town, day + later) for day in (0, 3)],
                                         [call(diary, town, day) for day in (0, 3)])
                    self.assertEqual(sure.markets(moved, town, later + 2, later + 9), sure.markets(diary, town, 2, 9))
                    self.assertEqual(has(sure.never(moved, town), later + 3), has(sure.never(diary, town), 3))
                    for goal in ("choice", "turn", 9):
                        self.assertEqual(visits.visits(moved, town, [later + day for day in range(4)],
                                                       goal if goal != 9 else later + 9),
                                         visits.visits(diary, town, [0, 1, 2, 3], goal))
                    self.assertEqual(watches.longest_watch(moved, town), watches.longest_watch(diary, town))
                for call in (needs.needless, needs.least_notes, cases.number_of_cases):
                    self.assertEqual(call(moved), call(diary))
                names = diary.names()
                for call in (journeys.journey, journeys.best_order, journeys.chosen_journey, journeys.travel):
                    self.assertEqual(call(moved, names, 3 + later), call(diary, names, 3))

    def test_watching_is_visiting_all_days_in_a_row(self):
        for diary in self.diaries(95):
            for town in diary.names():
                need = watches.watch(diary, town, 4)
                days = [4 + passed for passed in range(need)]
                self.assertIsNotNone(visits.visits(diary, town, days, "choice"))
                if need:
                    self.assertIsNone(visits.visits(diary, town, days[:-1], "choice"))
                for choice in cases.choices(diary, town):
                    seen = [day % choice[0] == choice[1] for day in days]
                    self.assertEqual(watches.left_behind(diary, town, 4, seen), [choice])

    def test_what_is_left_behind_a_visit_is_what_a_note_leaves(self):
        for diary in self.diaries(96):
            for town in diary.names():
                for day in (2, 7, FAR):
                    parts = [diary.with_note((kind, town, day)) for kind in ("market", "none")]
                    numbers = [0 if cases.quarrels(part) else len(cases.choices(part, town)) for part in parts]
                    self.assertEqual(visits.left(diary, town, day), tuple(numbers))

    def test_lots_that_are_told_are_shown_and_read_again(self):
        for diary in self.diaries(97):
            for town in diary.names():
                for call in (sure.sure, sure.never, sure.open_days):
                    told = call(diary, town)
                    self.assertEqual(read_lot(texts.show_lot(told)), told)


if __name__ == "__main__":
    unittest.main()
