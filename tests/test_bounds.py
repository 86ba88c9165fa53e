"""Tests that each call answers soon on diaries as great as promise [2] allows, and on somewhat greater ones."""

import unittest
from time import perf_counter

from marketdays import cases, needs, papers, sure, visits, watches
from marketdays.diaries import Diary
from tests.trying import FAR, GREAT, GREAT_TOWNS

SECONDS = 10
CHAIN = (GREAT_TOWNS, [("same", "ulm", "wien", 0), ("same", "wien", "bonn", FAR), ("none", "ulm", 3)])
GREATER = [CHAIN, ([(name, 1, 10) for name, _, _ in GREAT_TOWNS], [("one", "ulm", "wien", 7)])]


class BoundsTest(unittest.TestCase):

    def answer(self, call, *rest):
        """Return what a call answers; it has to be soon."""
        start = perf_counter()
        told = call(*rest)
        self.assertLess(perf_counter() - start, SECONDS, call.__name__)
        return told

    def ask_all(self, diary):
        for call in (cases.quarrels, cases.first_case, cases.number_of_cases):
            self.answer(call, diary)
        self.answer(cases.keeps, diary, cases.first_case(diary))
        for name in diary.names():
            for call in (cases.choices, sure.sure, sure.never, sure.open_days):
                self.answer(call, diary, name)
            self.answer(sure.latest, diary, name, FAR)
            self.answer(sure.markets, diary, name, 1, FAR)
            for day in (3, FAR):
                word = self.answer(sure.says, diary, name, day)
                told = self.answer(papers.paper, diary, name, day)
                self.assertIs(self.answer(papers.judge_paper, diary, name, day, word, told), True)

    def ask_of_two(self, diary, one, other):
        for call in (cases.couples, sure.both, sure.apart, sure.alike_days, sure.unlike_days, sure.either, sure.meeting):
            self.answer(call, diary, one, other)
        self.answer(sure.latest_meeting, diary, one, other, FAR)
        self.answer(sure.follows, diary, ("one", one, other, FAR))

    def ask_of_notes(self, diary):
        for call in (needs.needless, needs.least_notes, needs.quarrel_sets, needs.mends):
            self.answer(call, diary)
        quarrel = diary.with_note(("none", "ulm", FAR)).with_note(("market", "ulm", FAR))
        for call in (needs.least_notes, needs.mends):
            self.answer(call, quarrel)
        for name in diary.names():
            for day in (3, FAR):
                self.answer(needs.reasons, diary, name, day)

    def ask_of_visits(self, diary, name):
        for days in (list(range(3, 15)), [FAR - 5 * day for day in range(12)], [1, 2, 3, 4, 5, 6, 8, 10, 12, 15, 20, 24]):
            self.answer(visits.best_visit, diary, name, days)
            for goal in ("choice", "turn", FAR):
                self.answer(visits.visits, diary, name, days, goal)
                told = self.answer(visits.plan, diary, name, days, goal)
                self.answer(visits.longest, told)
                self.assertIs(self.answer(visits.judge_plan, diary, name, told, goal), told is not None)
                for many in (0, 3, 20):
                    rows = self.answer(visits.hold, diary, name, days[:8], many, goal)
                    judged = self.answer(visits.judge_hold, diary, name, days[:8], many, rows, goal)
                    self.assertIs(judged, rows is not None)

    def ask_of_watches(self, diary, name):
        self.answer(watches.watch, diary, name, FAR)
        self.answer(watches.longest_watch, diary, name)
        told = self.answer(watches.doubt, diary, name)
        self.assertIs(self.answer(watches.judge_doubt, diary, name, told), told is not None)
        self.answer(watches.left_behind, diary, name, FAR, [False] * 60)

    def test_each_call_answers_soon(self):
        for towns, notes in GREAT + GREATER:
            diary = Diary(towns, notes)
            self.ask_all(diary)
            self.ask_of_notes(diary)
            for name in diary.names():
                self.ask_of_visits(diary, name)
                self.ask_of_watches(diary, name)
            for one, other in [("ulm", "wien"), ("wien", "bonn")]:
                self.ask_of_two(diary, one, other)

    def test_each_call_of_two_diaries_answers_soon(self):
        alike = Diary(GREAT_TOWNS, [("same", "ulm", "wien", FAR + day) for day in (0, 0, 0, 0, 0, 1)])
        other = Diary(GREAT_TOWNS, [("same", "bonn", "wien", FAR + day) for day in (0, 0, 0, 0, 0, 1)])
        for one, second in [(alike, other), (other, alike), (alike, alike.without(5)), (alike, alike.without(0))]:
            self.answer(needs.alike, one, second)
            self.answer(needs.first_unlike, one, second)
            self.answer(needs.first_day, one, second, "wien")

    def test_a_hold_of_many_rows(self):
        rows = [([(3, 0), (4, 3)], number) for number in range(1500)]
        diary = Diary([("ulm", 1, 8)], [])
        self.assertIs(self.answer(visits.judge_hold, diary, "ulm", list(range(12)), 20, rows, "turn"), False)
        self.assertIs(self.answer(visits.judge_hold, diary, "ulm", [4, 5, 8, 13] * 3, 20, rows, "turn"), True)


if __name__ == "__main__":
    unittest.main()
