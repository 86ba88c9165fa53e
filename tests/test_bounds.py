"""Tests that each call answers soon on diaries as great as promise [2] allows, and on somewhat greater ones."""

import unittest
from time import perf_counter

from marketdays import cases, papers, sure
from marketdays.diaries import Diary
from tests.trying import FAR, GREAT, GREAT_TOWNS

SECONDS = 10
CHAIN = (GREAT_TOWNS, [("same", "ulm", "wien", 0), ("same", "wien", "bonn", FAR), ("none", "ulm", 3)])
GREATER = [CHAIN, ([(name, 1, 10) for name, _, _ in GREAT_TOWNS], [("one", "ulm", "wien", 7)])]


class BoundsTest(unittest.TestCase):

    def answer(self, call, *rest):
        """Return what a call answers; it has to be soon."""
        start = perf_counter()
        told = call(*rest)
        self.assertLess(perf_counter() - start, SECONDS, call.__name__)
        return told

    def ask_all(self, diary):
        for call in (cases.quarrels, cases.first_case, cases.number_of_cases):
            self.answer(call, diary)
        self.answer(cases.keeps, diary, cases.first_case(diary))
        for name in diary.names():
            for call in (cases.choices, sure.sure, sure.never, sure.open_days):
                self.answer(call, diary, name)
            self.answer(sure.latest, diary, name, FAR)
            self.answer(sure.markets, diary, name, 1, FAR)
            for day in (3, FAR):
                word = self.answer(sure.says, diary, name, day)
                told = self.answer(papers.paper, diary, name, day)
                self.assertIs(self.answer(papers.judge_paper, diary, name, day, word, told), True)

    def ask_of_two(self, diary, one, other):
        for call in (cases.couples, sure.both, sure.apart, sure.alike_days, sure.unlike_days, sure.either, sure.meeting):
            self.answer(call, diary, one, other)
        self.answer(sure.latest_meeting, diary, one, other, FAR)
        self.answer(sure.follows, diary, ("one", one, other, FAR))

    def test_each_call_answers_soon(self):
        for towns, notes in GREAT + GREATER:
            diary = Diary(towns, notes)
            self.ask_all(diary)
            for one, other in [("ulm", "wien"), ("wien", "bonn")]:
                self.ask_of_two(diary, one, other)


if __name__ == "__main__":
    unittest.main()
