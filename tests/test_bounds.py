"""Tests that each call answers soon on diaries as great as promise [2] allows, and on somewhat greater ones."""

import unittest
from itertools import permutations
from time import perf_counter

from marketdays import cases, journeys, needs, papers, readings, sure, texts, visits, watches
from marketdays.books import Book
from marketdays.diaries import Diary
from marketdays.errors import MarketError
from tests.trying import FAR, GREAT, GREAT_TOWNS

SECONDS = 10
CHAIN = (GREAT_TOWNS, [("same", "ulm", "wien", 0), ("same", "wien", "bonn", FAR), ("none", "ulm", 3)])
GREATER = [CHAIN, ([(name, 1, 10) for name, _, _ in GREAT_TOWNS], [("one", "ulm", "wien", 7)])]


class BoundsTest(unittest.TestCase):

    def answer(self, call, *rest):
        """Return what a call answers; it has to be soon."""
        start = perf_counter()
        told = call(*rest)
        self.assertLess(perf_counter() - start, SECONDS, call.__name__)
        return told

    def ask_all(self, diary):
        for call in (cases.quarrels, cases.first_case, cases.number_of_cases):
            self.answer(call, diary)
        self.answer(cases.keeps, diary, cases.first_case(diary))
        for name in diary.names():
            for call in (cases.choices, sure.sure, sure.never, sure.open_days):
                self.answer(call, diary, name)
            self.answer(sure.latest, diary, name, FAR)
            self.answer(sure.markets, diary, name, 1, FAR)
            for day in (3, FAR):
                word = self.answer(sure.says, diary, name, day)
                told = self.answer(papers.paper, diary, name, day)
                self.assertIs(self.answer(papers.judge_paper, diary, name, day, word, told), True)

    def ask_of_two(self, diary, one, other):
        for call in (cases.couples, sure.both, sure.apart, sure.alike_days, sure.unlike_days, sure.either, sure.meeting):
            self.answer(call, diary, one, other)
        self.answer(sure.latest_meeting, diary, one, other, FAR)
        self.answer(sure.follows, diary, ("one", one, other, FAR))

    def ask_of_notes(self, diary):
        for call in (needs.needless, needs.least_notes, needs.quarrel_sets, needs.mends):
            self.answer(call, diary)
        quarrel = diary.with_note(("none", "ulm", FAR)).with_note(("market", "ulm", FAR))
        for call in (needs.least_notes, needs.mends):
            self.answer(call, quarrel)
        for name in diary.names():
            for day in (3, FAR):
                self.answer(needs.reasons, diary, name, day)

    def ask_of_visits(self, diary, name):
        for days in (list(range(3, 15)), [FAR - 5 * day for day in range(12)], [1, 2, 3, 4, 5, 6, 8, 10, 12, 15, 20, 24]):
            self.answer(visits.best_visit, diary, name, days)
            for goal in ("choice", "turn", FAR):
                self.answer(visits.visits, diary, name, days, goal)
                told = self.answer(visits.plan, diary, name, days, goal)
                self.answer(visits.longest, told)
                self.assertIs(self.answer(visits.judge_plan, diary, name, told, goal), told is not None)
                for many in (0, 3, 20):
                    rows = self.answer(visits.hold, diary, name, days[:8], many, goal)
                    judged = self.answer(visits.judge_hold, diary, name, days[:8], many, rows, goal)
                    self.assertIs(judged, rows is not None)

    def ask_of_watches(self, diary, name):
        self.answer(watches.watch, diary, name, FAR)
        self.answer(watches.longest_watch, diary, name)
        told = self.answer(watches.doubt, diary, name)
        self.assertIs(self.answer(watches.judge_doubt, diary, name, told), told is not None)
        self.answer(watches.left_behind, diary, name, FAR, [False] * 60)

    def ask_of_journeys(self, diary):
        names = diary.names()
        for day in (0, FAR):
            for order in (2 * names, names + names[::-1], 6 * names[:1], [names[0], names[1]] * 3):
                self.answer(journeys.journey, diary, order[:6], day)
            self.answer(journeys.best_order, diary, names, day)
            need = self.answer(journeys.chosen_journey, diary, names, day)
            told = self.answer(journeys.travel, diary, names, day)
            for most, right in [(need, True), (need - 1, False)]:
                self.assertIs(self.answer(journeys.judge_travel, diary, names, day, told, most), right)

    def test_each_call_answers_soon(self):
        for towns, notes in GREAT + GREATER:
            diary = Diary(towns, notes)
            self.ask_all(diary)
            self.ask_of_notes(diary)
            self.ask_of_journeys(diary)
            for name in diary.names():
                self.ask_of_visits(diary, name)
                self.ask_of_watches(diary, name)
            for one, other in [("ulm", "wien"), ("wien", "bonn")]:
                self.ask_of_two(diary, one, other)

    def test_each_call_of_two_diaries_answers_soon(self):
        alike = Diary(GREAT_TOWNS, [("same", "ulm", "wien", FAR + day) for day in (0, 0, 0, 0, 0, 1)])
        other = Diary(GREAT_TOWNS, [("same", "bonn", "wien", FAR + day) for day in (0, 0, 0, 0, 0, 1)])
        for one, second in [(alike, other), (other, alike), (alike, alike.without(5)), (alike, alike.without(0))]:
            self.answer(needs.alike, one, second)
            self.answer(needs.first_unlike, one, second)
            self.answer(needs.first_day, one, second, "wien")

    def test_a_travel_of_800_rows(self):
        told = ("home",)
        for name in ("wien", "bonn"):
            told = ("go", name, [(waited, told) for waited in range(8)])
        rows = [(waited, told) for waited in range(11)]
        diary = Diary(GREAT_TOWNS, [])
        for most in (23, 24, FAR):
            right = ("go", "ulm", rows[:8])
            self.assertIs(self.answer(journeys.judge_travel, diary, diary.names(), 3, right, most), most >= 24)
            self.assertIs(self.answer(journeys.judge_travel, diary, diary.names(), 3, ("go", "ulm", rows), most), False)

    def test_a_book_of_20_notes_and_200_calls(self):
        notes = [(kind, "ulm", "wien", FAR + day) for kind in ("one", "same") for day in range(12)]
        notes += [("same", "ulm", "wien", 0)] * 18 + [("none", name, 3) for name in ("ulm", "wien", "bonn")]
        book = Book(GREAT_TOWNS)
        start = perf_counter()
        for at in range(200):
            note = notes[at * 7 % len(notes)]
            try:
                book.fresh(note)
                book(note)
            except MarketError:
                book.undo()
            if len(book) == 20:
                book.undo()
        self.assertLess(perf_counter() - start, SECONDS)
        full = Book(GREAT_TOWNS)
        start = perf_counter()
        for at in range(200):
            self.assertEqual(full(("same", "ulm", "wien", 840 * at)), 848 * 36)
            self.assertIs(full.fresh(("same", "ulm", "wien", 0)), False)
            if len(full) == 20:
                full.undo()
        self.assertLess(perf_counter() - start, SECONDS)

    def test_texts_of_3000_characters(self):
        towns = [("".join(letters), 1, 1) for letters in permutations("abcdefgh")][:200]
        long = Diary(towns[:20], [("one", towns[0][0], towns[at % 19 + 1][0], FAR - at) for at in range(48)])
        wide = Diary(towns, [])
        for diary in (long, wide):
            text = self.answer(texts.show_diary, diary)
            self.assertLessEqual(len(text), 3000)
            self.assertGreater(len(text), 2500)
            self.assertTrue(self.answer(readings.read_diary, text) == diary)
        rests = ",".join(str(rest) for rest in range(0, 1400, 2))
        self.assertEqual(len(self.answer(readings.read_lot, f"{rests} by 5040")[1]), 700)
        for text in (rests, rests[:-1] + ",1 by 5040", "; " * 1500, ", " * 1500, "ulm 1..1" + "; market ulm 3" * 200 + ";",
                     "9" * 3000, " " * 3000, "ulm " + "1" * 2996, "a" * 3000 + " by 7", "- by " + "7" * 2990):
            for call in (readings.read_diary, readings.read_lot):
                with self.assertRaises(MarketError):
                    self.answer(call, text)

    def test_a_hold_of_many_rows(self):
        rows = [([(3, 0), (4, 3)], number) for number in range(1500)]
        diary = Diary([("ulm", 1, 8)], [])
        self.assertIs(self.answer(visits.judge_hold, diary, "ulm", list(range(12)), 20, rows, "turn"), False)
        self.assertIs(self.answer(visits.judge_hold, diary, "ulm", [4, 5, 8, 13] * 3, 20, rows, "turn"), True)


if __name__ == "__main__":
    unittest.main()
