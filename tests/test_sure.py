"""Tests of marketdays.sure: promises [2] to [8] and its section."""

import unittest

from marketdays import sure as module
from marketdays.cases import quarrels
from marketdays.diaries import Diary
from marketdays.errors import InvalidDay, InvalidNote, Quarrel, UnknownTown
from marketdays.lots import has, joined, less, lot, met
from marketdays.sure import (alike_days, apart, both, either, follows, latest, latest_meeting, markets, meeting,
                             never, open_days, says, sure, unlike_days)
from tests.raising import error_of
from tests.trying import FAR, GREAT, SMALL, chosen_in, fitting, keeps_note, least_lot, shows, some_diaries, span, surely

QUARREL = Diary([("ulm", 2, 3), ("wien", 1, 2)], [("market", "wien", 3), ("none", "wien", 3)])
PAIR = Diary([("ulm", 2, 3), ("wien", 2, 2)], [("one", "ulm", "wien", 4), ("market", "ulm", 0)])
ONE_TOWN = [sure, never, open_days]
TWO_TOWNS = [both, apart, alike_days, unlike_days, either, meeting]
# How many of two towns have market.
NUMBERS = [(both, (2,)), (apart, (0, 1)), (alike_days, (0, 2)), (unlike_days, (1,)), (either, (1, 2))]


def wait_for(day, towns_choices):
    """Return the number of days to wait, from a day on, until all choices have market; None if that never is."""
    for waited in range(60):
        if all([shows(choice, day + waited) for choice in towns_choices]):
            return waited
    return None


class ExamplesTest(unittest.TestCase):

    def test_the_examples_of_the_section(self):
        ulm = Diary([("ulm", 2, 6), ("bonn", 2, 2)], [("market", "ulm", 3), ("market", "ulm", 9), ("none", "ulm", 5), ("market", "bonn", 0)])
        self.assertEqual(
            [says(ulm, "ulm", 10 ** 30 + 5), says(ulm, "ulm", 15), says(ulm, "ulm", 6), sure(ulm, "ulm"), never(ulm, "ulm"), open_days(ulm, "ulm")],
            ['market', 'market', 'open', (6, [3]), (3, [1, 2]), (6, [0])])
        self.assertEqual(
            [both(ulm, "ulm", "bonn"), apart(ulm, "ulm", "bonn"), latest(ulm, "ulm", 4), meeting(ulm, "ulm", "bonn"), latest_meeting(ulm, "ulm", "bonn", 0), markets(ulm, "ulm", 1, 12)],
            [(1, []), (6, [1, 2, 3, 4, 5]), 5, 'open', None, (2, 4)])
        pair = Diary([("ulm", 2, 3), ("wien", 2, 2)], [("one", "ulm", "wien", 4), ("market", "ulm", 0)])
        self.assertEqual(
            [either(pair, "ulm", "wien"), unlike_days(pair, "ulm", "wien"), follows(pair, ("one", "wien", "ulm", 10)), follows(pair, ("market", "wien", 1))],
            [(6, [0, 2, 3, 4]), (6, [2, 3, 4]), 'surely', 'open'])


class AllCasesTest(unittest.TestCase):

    def compare_town(self, diary, name, own, every):
        """Compare what is said of a town with what its choices in all cases that fit say, day by day."""
        shown = [{shows(choice, day) for choice in own} for day in range(every)]
        market = [day for day in range(every) if shown[day] == {True}]
        none = [day for day in range(every) if shown[day] == {False}]
        other = [day for day in range(every) if len(shown[day]) == 2]
        self.assertEqual(sure(diary, name), least_lot(market, every))
        self.assertEqual(never(diary, name), least_lot(none, every))
        self.assertEqual(open_days(diary, name), least_lot(other, every))
        for day in range(0, every, 1 + every // 40):
            word = "market" if day in market else ("none" if day in none else "open")
            self.assertEqual(says(diary, name, day), word)
            self.assertEqual(says(diary, name, day + every * 10 ** 27), word)
            self.assertEqual(follows(diary, ("market", name, day)),
                             {"market": "surely", "none": "never", "open": "open"}[word])
            self.assertEqual(follows(diary, ("none", name, day)),
                             {"none": "surely", "market": "never", "open": "open"}[word])
            self.assertEqual(latest(diary, name, day), max(wait_for(day, [choice]) for choice in own))
        for low in range(0, 12, 5):
            for high in range(low - 2, 30, 3):
                found = [len([day for day in range(low, high + 1) if shows(choice, day)]) for choice in own]
                if high >= 0:
                    self.assertEqual(markets(diary, name, low, high), (min(found), max(found)))

    def compare_two(self, diary, name, other, pairs, every):
        """Compare what is said of two towns with what all cases that fit say, day by day."""
        known = {choice for pair in pairs for choice in pair}
        shown = {choice: [shows(choice, day) for day in range(every)] for choice in known}
        found = [{shown[one][day] + shown[second][day] for one, second in pairs} for day in range(every)]
        for call, numbers in NUMBERS:
            days = [day for day in range(every) if found[day] <= set(numbers)]
            self.assertEqual(call(diary, name, other), least_lot(days, every))
        word = surely(pairs, lambda pair: wait_for(0, pair) is not None)
        self.assertEqual(meeting(diary, name, other), word)
        for day in [0, 1, 2, 5, 11, FAR]:
            waits = [wait_for(day, pair) for pair in pairs]
            self.assertEqual(latest_meeting(diary, name, other, day), None if None in waits else max(waits))
            for kind in ("one", "same"):
                note = (kind, name, other, day)
                told = surely(pairs, lambda pair: keeps_note({name: pair[0], other: pair[1]}, note))
                self.assertEqual(follows(diary, note), told)
                self.assertEqual(follows(diary, (kind, other, name, day)), told)

    def compare(self, towns, notes):
        diary = Diary(towns, notes)
        cases = fitting(towns, notes)
        if not cases:
            return
        for name in diary.names():
            self.compare_town(diary, name, chosen_in(towns, cases, name), span(towns))
            for other in diary.names():
                if other != name:
                    self.compare_two(diary, name, other, chosen_in(towns, cases, name, other), span(towns))

    def test_diaries_of_each_kind(self):
        for towns, notes in SMALL:
            with self.subTest(towns=towns, notes=notes):
                self.compare(towns, notes)

    def test_some_diaries(self):
        for towns, notes in some_diaries(11, 60, 4):
            with self.subTest(towns=towns, notes=notes):
                self.compare(towns, notes)

    def test_great_diaries(self):
        for towns, notes in GREAT:
            with self.subTest(towns=towns, notes=notes):
                self.compare(towns, notes)


class GuaranteesTest(unittest.TestCase):

    def test_two_sure_days_leave_turns_that_divide_their_distance(self):
        for towns, notes in SMALL + some_diaries(5, 60, 6):
            diary = Diary(towns, notes)
            for name in [] if quarrels(diary) else diary.names():
                every, rests = sure(diary, name)
                self.assertLessEqual(len(rests), 1)
                turns = [turn for turn, _ in chosen_in(towns, fitting(towns, notes), name)]
                for turn in turns if rests else []:
                    self.assertEqual(every % turn, 0)
                self.assertEqual(span([("x", turn, turn) for turn in turns]) % never(diary, name)[0], 0)

    def test_the_lots_of_one_town_part_all_days(self):
        for towns, notes in SMALL + some_diaries(6, 60, 6):
            diary = Diary(towns, notes)
            for name in [] if quarrels(diary) else diary.names():
                told = [sure(diary, name), never(diary, name), open_days(diary, name)]
                self.assertEqual(joined(joined(told[0], told[1]), told[2]), (1, [0]))
                for one, other in [(0, 1), (0, 2), (1, 2)]:
                    self.assertEqual(met(told[one], told[other]), (1, []))

    def test_the_lots_of_two_towns_belong_together(self):
        for towns, notes in SMALL + some_diaries(8, 60, 5):
            diary = Diary(towns, notes)
            if quarrels(diary) or len(towns) < 2:
                continue
            one, other = diary.names()[:2]
            self.assertEqual(both(diary, one, other), met(sure(diary, one), sure(diary, other)))
            self.assertEqual(less(both(diary, one, other), alike_days(diary, one, other)), (1, []))
            self.assertEqual(unlike_days(diary, one, other), met(apart(diary, one, other), either(diary, one, other)))
            for call in TWO_TOWNS:
                self.assertEqual(call(diary, one, other), call(diary, other, one))

    def test_a_note_follows_exactly_if_its_opposite_quarrels(self):
        opposite = {"market": "none", "none": "market", "one": "same", "same": "one"}
        for towns, notes in SMALL + some_diaries(9, 60, 4):
            diary = Diary(towns, notes)
            for note in [] if quarrels(diary) else notes:
                self.assertEqual(follows(diary, note), "surely")
                other = (opposite[note[0]],) + note[1:]
                self.assertEqual(follows(diary, other), "never")
                self.assertIs(quarrels(diary.with_note(other)), True)
                left = diary.without(notes.index(note))
                self.assertEqual(follows(left, note) == "surely", quarrels(left.with_note(other)))

    def test_what_other_towns_do_has_no_bearing(self):
        notes = [("market", "ulm", 3), ("one", "ulm", "wien", 4)]
        two = Diary([("ulm", 1, 5), ("wien", 2, 4)], notes)
        three = Diary([("bonn", 1, 8), ("ulm", 1, 5), ("wien", 2, 4)], [("none", "bonn", 5)] + notes)
        for call in ONE_TOWN:
            self.assertEqual([call(two, "ulm"), call(two, "wien")], [call(three, "ulm"), call(three, "wien")])
        for call in TWO_TOWNS:
            self.assertEqual(call(two, "ulm", "wien"), call(three, "ulm", "wien"))


class EdgesTest(unittest.TestCase):

    def test_a_town_of_turn_1(self):
        diary = Diary([("ulm", 1, 1), ("wien", 1, 1)], [])
        self.assertEqual([sure(diary, "ulm"), never(diary, "ulm"), open_days(diary, "ulm")], [(1, [0]), (1, []), (1, [])])
        self.assertEqual([call(diary, "ulm", "wien") for call in TWO_TOWNS],
                         [(1, [0]), (1, []), (1, [0]), (1, []), (1, [0]), "surely"])
        self.assertEqual([latest(diary, "ulm", FAR), latest_meeting(diary, "ulm", "wien", FAR)], [0, 0])
        self.assertEqual([says(diary, "ulm", 0), says(diary, "wien", FAR)], ["market", "market"])
        self.assertEqual(markets(diary, "ulm", 0, FAR), (FAR + 1, FAR + 1))

    def test_without_notes(self):
        diary = Diary([("ulm", 2, 8), ("wien", 1, 8)], [])
        self.assertEqual([sure(diary, "ulm"), never(diary, "ulm"), open_days(diary, "ulm")], [(1, []), (1, []), (1, [0])])
        self.assertEqual([call(diary, "ulm", "wien") for call in TWO_TOWNS], [(1, [])] * 5 + ["open"])
        self.assertEqual([latest(diary, "ulm", 0), latest_meeting(diary, "wien", "ulm", 0)], [7, None])
        self.assertEqual(markets(diary, "ulm", 1, 7), (0, 4))

    def test_meetings_that_are_sure_late_or_never(self):
        late = Diary([("ulm", 8, 8), ("wien", 7, 7)], [("market", "ulm", 0), ("market", "wien", 6)])
        self.assertEqual([meeting(late, "ulm", "wien"), latest_meeting(late, "ulm", "wien", 0)], ["surely", 48])
        self.assertEqual([latest_meeting(late, "wien", "ulm", day) for day in (48, 49, 104, 105)], [0, 55, 0, 55])
        apart_ever = Diary([("ulm", 2, 4), ("wien", 2, 2)], [("market", "ulm", 0), ("market", "ulm", 2),
                                                            ("market", "wien", 5)])
        self.assertEqual([meeting(apart_ever, "ulm", "wien"), latest_meeting(apart_ever, "ulm", "wien", 7)],
                         ["never", None])
        perhaps = Diary([("ulm", 2, 3), ("wien", 2, 2)], [("market", "ulm", 0), ("market", "wien", 1)])
        self.assertEqual([meeting(perhaps, "ulm", "wien"), latest_meeting(perhaps, "wien", "ulm", 0)], ["open", None])

    def test_days_0_and_far(self):
        diary = Diary([("ulm", 7, 7)], [("market", "ulm", FAR)])
        first = FAR % 7
        self.assertEqual([sure(diary, "ulm"), says(diary, "ulm", 0), says(diary, "ulm", first), says(diary, "ulm", FAR)],
                         [(7, [first]), "none", "market", "market"])
        self.assertEqual([latest(diary, "ulm", 0), latest(diary, "ulm", FAR), latest(diary, "ulm", FAR - 6)], [first, 0, 6])
        self.assertEqual(markets(diary, "ulm", 0, FAR), (FAR // 7 + 1,) * 2)
        self.assertEqual(markets(diary, "ulm", FAR, FAR), (1, 1))
        self.assertEqual(markets(diary, "ulm", 0, 0), (0, 0))
        self.assertTrue(has(sure(diary, "ulm"), FAR))

    def test_markets_of_long_stretches(self):
        diary = Diary([("ulm", 2, 6)], [("market", "ulm", 3), ("market", "ulm", 9), ("none", "ulm", 5)])
        self.assertEqual(markets(diary, "ulm", 0, 6 * 10 ** 29 - 1), (10 ** 29, 2 * 10 ** 29))
        self.assertEqual(markets(diary, "ulm", 3, 6 * 10 ** 29 + 3), (10 ** 29 + 1, 2 * 10 ** 29 + 1))

    def test_a_last_day_less_than_the_first(self):
        diary = Diary([("ulm", 1, 3)], [])
        for low, high in [(1, 0), (9, 3), (FAR, 0), (FAR, FAR - 1)]:
            self.assertEqual(markets(diary, "ulm", low, high), (0, 0))
        self.assertEqual(error_of(markets, QUARREL, "ulm", 5, 3), (Quarrel, 0))

    def test_lots_have_the_least_every(self):
        diary = Diary([("ulm", 2, 2), ("wien", 4, 4), ("bonn", 8, 8)],
                      [("market", "ulm", 0), ("market", "wien", 1), ("market", "bonn", 5)])
        self.assertEqual([never(diary, "ulm"), never(diary, "wien")], [(2, [1]), (4, [0, 2, 3])])
        self.assertEqual([apart(diary, "ulm", "wien"), alike_days(diary, "ulm", "wien")], [(1, [0]), (4, [3])])
        self.assertEqual([both(diary, "wien", "bonn"), unlike_days(diary, "bonn", "wien")], [(8, [5]), (8, [1])])
        self.assertEqual(either(diary, "wien", "bonn"), (4, [1]))


class ErrorsTest(unittest.TestCase):

    def setUp(self):
        self.one_town = [(call, ()) for call in ONE_TOWN] + [(says, (3,)), (latest, (3,)), (markets, (3, 5))]
        self.two_towns = [(call, ()) for call in TWO_TOWNS] + [(latest_meeting, (3,))]

    def test_names_that_are_no_towns(self):
        for diary in (PAIR, QUARREL, Diary([], [])):
            for name in ("graz", "", "Ulm", "~"):
                for call, rest in self.one_town:
                    self.assertEqual(error_of(call, diary, name, *rest), (UnknownTown, name))
                    self.assertEqual(error_of(call, diary, name, *[-1 for _ in rest]), (UnknownTown, name))
                for call, rest in self.two_towns:
                    for other in ("linz", name, "ulm"):
                        self.assertEqual(error_of(call, diary, name, other, *rest), (UnknownTown, name))
                        self.assertEqual(error_of(call, diary, name, other, *[-1 for _ in rest]), (UnknownTown, name))
        for call, rest in self.two_towns:
            for diary in (PAIR, QUARREL):
                self.assertEqual(error_of(call, diary, "ulm", "graz", *rest), (UnknownTown, "graz"))

    def test_one_town_twice(self):
        for call, rest in self.two_towns:
            for diary in (PAIR, QUARREL):
                for name in ("ulm", "wien"):
                    self.assertEqual(error_of(call, diary, name, name, *rest), (InvalidNote, name))
                    self.assertEqual(error_of(call, diary, name, name, *[-1 for _ in rest]), (InvalidNote, name))

    def test_days_less_than_0(self):
        for diary in (PAIR, QUARREL):
            for day in (-1, -7, -FAR):
                self.assertEqual(error_of(says, diary, "ulm", day), (InvalidDay, day))
                self.assertEqual(error_of(latest, diary, "ulm", day), (InvalidDay, day))
                self.assertEqual(error_of(latest_meeting, diary, "ulm", "wien", day), (InvalidDay, day))
                self.assertEqual(error_of(markets, diary, "ulm", day, 3), (InvalidDay, day))
                self.assertEqual(error_of(markets, diary, "ulm", 3, day), (InvalidDay, day))
                self.assertEqual(error_of(markets, diary, "ulm", day, day - 1), (InvalidDay, day))

    def test_diaries_that_quarrel(self):
        for call, rest in self.one_town:
            for name in ("ulm", "wien"):
                self.assertEqual(error_of(call, QUARREL, name, *rest), (Quarrel, 0))
        for call, rest in self.two_towns:
            self.assertEqual(error_of(call, QUARREL, "ulm", "wien", *rest), (Quarrel, 0))
        for note in [("market", "ulm", 0), ("none", "wien", 3), ("one", "ulm", "wien", 3), ("same", "wien", "ulm", 0)]:
            self.assertEqual(error_of(follows, QUARREL, note), (Quarrel, 0))

    def test_notes_that_are_wrong(self):
        for diary in (PAIR, QUARREL):
            for note in [(), ("market",), ("both", "ulm", 3), ("market", "ulm", "wien", 3), ("one", "graz", -1),
                         ("one", "ulm", "ulm", -1), ("same", "wien", "wien", 0)]:
                self.assertEqual(error_of(follows, diary, note), (InvalidNote, note))
            for note, name in [(("market", "graz", -1), "graz"), (("one", "ulm", "", 3), ""),
                               (("same", "linz", "graz", 3), "linz"), (("one", "graz", "graz", 3), "graz")]:
                self.assertEqual(error_of(follows, diary, note), (UnknownTown, name))
            for note in [("none", "ulm", -1), ("same", "ulm", "wien", -FAR)]:
                self.assertEqual(error_of(follows, diary, note), (InvalidDay, note[-1]))
        self.assertEqual(error_of(follows, Diary([], []), ("market", "ulm", 3)), (UnknownTown, "ulm"))


class ListsTest(unittest.TestCase):

    def test_returned_lists_are_new(self):
        everywhere = Diary([("ulm", 2, 2), ("wien", 2, 2)], [("market", "ulm", 0), ("market", "wien", 0)])
        for diary in (PAIR, everywhere):
            asks = [(call, ("ulm",)) for call in ONE_TOWN] + [(call, ("ulm", "wien")) for call, _ in NUMBERS]
            told = [call(diary, *names) for call, names in asks]
            kept = [(every, list(rests)) for every, rests in told]
            for _, rests in told:
                rests.append(-1)
            self.assertEqual([call(diary, *names) for call, names in asks], kept)
            self.assertEqual(len({id(rests) for _, rests in told}), len(told))

    def test_lists_of_a_diary_are_not_changed(self):
        towns, notes = list(PAIR.towns), list(PAIR.notes)
        diary = Diary(towns, notes)
        for _ in range(2):
            for call in ONE_TOWN:
                call(diary, "ulm")
            for call in TWO_TOWNS:
                call(diary, "ulm", "wien")
                error_of(call, diary, "ulm", "ulm")
            follows(diary, ("one", "ulm", "wien", 3))
            error_of(follows, diary, ("one", "ulm", "graz", 3))
            self.assertEqual([diary.towns, diary.notes, towns, notes], 2 * [PAIR.towns, PAIR.notes])
        self.assertEqual(diary, PAIR)

    def test_the_same_question_asked_of_two_diaries_by_turns(self):
        more = PAIR.with_note(("market", "ulm", 3))
        for _ in range(3):
            self.assertEqual([sure(PAIR, "ulm"), sure(more, "ulm")], [(6, [0]), (3, [0])])
            self.assertEqual([says(PAIR, "wien", 1), says(more, "wien", 1)], ["open", "none"])
            self.assertEqual([meeting(PAIR, "ulm", "wien"), meeting(more, "ulm", "wien")], ["open", "surely"])
            self.assertEqual(sure(more.without(2), "ulm"), (6, [0]))

    def test_arguments_by_name(self):
        for call in ONE_TOWN:
            self.assertEqual(call(town="ulm", diary=PAIR), call(PAIR, "ulm"))
        for call in TWO_TOWNS:
            self.assertEqual(call(other="wien", town="ulm", diary=PAIR), call(PAIR, "ulm", "wien"))
        self.assertEqual(says(day=0, town="ulm", diary=PAIR), "market")
        self.assertEqual(follows(note=("market", "ulm", 0), diary=PAIR), "surely")
        self.assertEqual(latest(day=1, town="ulm", diary=PAIR), 2)
        self.assertIsNone(latest_meeting(day=1, other="wien", town="ulm", diary=PAIR))
        self.assertEqual(markets(high=3, low=1, town="ulm", diary=PAIR), (1, 1))

    def test_told_lots_are_lots(self):
        for call in ONE_TOWN:
            every, rests = call(PAIR, "ulm")
            self.assertEqual(lot(every, rests), (every, rests))
            self.assertIsInstance(call(PAIR, "ulm"), tuple)
            self.assertIsInstance(rests, list)
        self.assertIs(module.sure, sure)


if __name__ == "__main__":
    unittest.main()
