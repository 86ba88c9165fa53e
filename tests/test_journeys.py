"""Tests of marketdays.journeys: promises [2], [3], [5], [7], [8], [10] and its section."""

import unittest
from copy import deepcopy
from itertools import permutations
from random import Random

from marketdays.cases import quarrels
from marketdays.diaries import Diary
from marketdays.errors import DoubleTown, InvalidDay, Quarrel, UnknownTown
from marketdays.journeys import best_order, chosen_journey, journey, judge_travel, travel
from tests.raising import error_of
from tests.trying import FAR, GREAT, SMALL, fitting, group_by_steps, shows, some_diaries

QUARREL = Diary([("ulm", 2, 3), ("wien", 1, 2)], [("market", "wien", 3), ("none", "wien", 3)])
TWO = Diary([("ulm", 2, 2), ("wien", 4, 4)], [("market", "wien", 1)])
THREE = Diary([("ulm", 1, 3), ("wien", 2, 2), ("bonn", 2, 3)], [("one", "ulm", "wien", 4), ("none", "bonn", 0)])
NAMES = ["ulm", "wien", "bonn"]


def wait_in(towns, case, name, day):
    """Return how many days one waits for market in a town, day by day."""
    choice = case[[town[0] for town in towns].index(name)]
    waited = 0
    while not shows(choice, day + waited):
        waited += 1
    return waited


def parted(towns, cases, name, day):
    """Return tuples (days waited, cases) of what there can be in a town, ascending."""
    found = {}
    for case in cases:
        found.setdefault(wait_in(towns, case, name, day), []).append(case)
    return sorted(found.items())


def journey_by_trying(towns, cases, order, day):
    """Return the least and the greatest number of days of a journey, case by case."""
    found = []
    for case in cases:
        now = day
        for name in order:
            now += wait_in(towns, case, name, now) + 1
        found.append(now - day)
    return min(found), max(found)


def chosen_by_trying(towns, cases, names, day):
    """Return the least number of days of a chosen journey, from all waits and all next towns."""
    if not names:
        return 0
    return min(max(waited + 1 + chosen_by_trying(towns, left, [other for other in names if other != name],
                                                 day + waited + 1)
                   for waited, left in parted(towns, cases, name, day)) for name in names)


def judged_by_trying(towns, cases, names, day, told, most):
    """Return True if a travel shows a chosen journey within some days, word for word as the document says."""
    if told == ("home",):
        return not names and most >= 0
    if told[1] not in names:
        return False
    ways = parted(towns, cases, told[1], day)
    if [row[0] for row in told[2]] != [waited for waited, _ in ways]:
        return False
    left = [name for name in names if name != told[1]]
    return all(judged_by_trying(towns, cases_left, left, day + waited + 1, row[1], most - waited - 1)
               for row, (waited, cases_left) in zip(told[2], ways))


def travel_changes(told):
    """Return travels that are a bit unlike a travel."""
    made = [("home",), ("go", "ulm", [(0, told)]), ("go", "linz", [(0, told)]), ("go", "wien", [])]
    if told == ("home",):
        return made
    _, town, rows = told
    made += [("go", other, rows) for other in NAMES + ["graz", ""] if other != town]
    made += [("go", town, rows[::-1]), ("go", town, rows + rows[-1:]), ("go", town, rows[1:]), ("go", town, rows[:-1]),
             ("go", town, rows + [(rows[-1][0] + 1, rows[-1][1])]), ("go", town, [(-1, rows[0][1])] + rows)]
    for at, (waited, then) in enumerate(rows):
        made += [("go", town, rows[:at] + [other] + rows[at + 1:]) for other in
                 [(waited + 1, then), (waited - 1, then), (waited, ("home",)), (waited, told), (waited, rows[0][1])]]
        made.append(("go", town, rows[:at] + [(waited, rows[at - 1][1]), (rows[at - 1][0], then)] + rows[at + 1:]))
        made += [("go", town, rows[:at] + [(waited, other)] + rows[at + 1:]) for other in travel_changes(then)[:12]]
    return made


def some_lists(random, names):
    """Return some lists of unlike names."""
    lists = [random.sample(names, len(names))[:random.randint(0, len(names))] for _ in range(2)]
    return lists + [[], list(names)]


class ExamplesTest(unittest.TestCase):

    def test_the_examples_of_the_section(self):
        two = Diary([("ulm", 2, 2), ("wien", 4, 4)], [("market", "wien", 1)])
        self.assertEqual(
            [journey(two, ["ulm", "wien"], 0), journey(two, ["wien", "ulm"], 0), best_order(two, ["ulm", "wien"], 0), chosen_journey(two, ["ulm", "wien"], 0), judge_travel(two, ["ulm", "wien"], 0, travel(two, ["ulm", "wien"], 0), 4)],
            [(2, 6), (3, 4), ['wien', 'ulm'], 4, True])


class AllCasesTest(unittest.TestCase):

    def compare(self, towns, notes, lists, orders, day):
        diary = Diary(towns, notes)
        cases = fitting(towns, notes)
        for order in orders:
            self.assertEqual(journey(diary, order, day), journey_by_trying(towns, cases, order, day))
        for names in lists:
            tried = [(journey_by_trying(towns, cases, order, day)[1], list(order)) for order in permutations(names)]
            least = min(greatest for greatest, _ in tried)
            self.assertEqual(best_order(diary, names, day), [order for greatest, order in tried if greatest == least][0])
            need = chosen_by_trying(towns, cases, names, day)
            self.assertEqual(chosen_journey(diary, names, day), need)
            self.assertLessEqual(need, least)
            told = travel(diary, names, day)
            for most in (0, need - 1, need, need + 1, FAR):
                if most >= 0:
                    self.assertIs(judge_travel(diary, names, day, told, most), most >= need)
                    self.assertIs(judged_by_trying(towns, cases, names, day, told, most), most >= need)
            if not [other for name in names for other in group_by_steps(towns, notes, name) if other in names
                    and other != name]:
                self.assertEqual(need, least)

    def test_diaries_of_each_kind(self):
        random = Random(61)
        for towns, notes in SMALL:
            if not fitting(towns, notes):
                continue
            names = [town[0] for town in towns]
            with self.subTest(towns=towns, notes=notes):
                orders = [[]] + [random.choices(names, k=number) for number in (1, 2, 3) if names]
                self.compare(towns, notes, some_lists(random, names), orders, random.choice([0, 3, FAR]))

    def test_some_diaries(self):
        random = Random(62)
        for towns, notes in some_diaries(63, 60, 4):
            if not fitting(towns, notes):
                continue
            names = [town[0] for town in towns]
            with self.subTest(towns=towns, notes=notes):
                orders = [random.choices(names, k=number) for number in (1, 2, 4)]
                self.compare(towns, notes, some_lists(random, names), orders, random.choice([0, 1, 2, 5, FAR]))

    def test_two_towns_that_hang_together_with_turns_to_8(self):
        for towns, notes in GREAT[1:]:
            diary = Diary(towns, notes)
            pair = [town for town in towns if town[0] in notes[1][1:3]]
            own = [note for note in notes if set(note[1:-1]) <= {town[0] for town in pair}]
            names = [town[0] for town in pair]
            cases = fitting(pair, own)
            for day in (0, FAR):
                order = (names + names[::-1] + names)[:6]
                self.assertEqual(journey(diary, order, day), journey_by_trying(pair, cases, order, day))
                self.assertEqual(chosen_journey(diary, names, day), chosen_by_trying(pair, cases, names, day))

    def test_chosen_journeys_of_towns_that_do_not_hang_together(self):
        for towns, notes in SMALL + some_diaries(64, 80, 6):
            if [note for note in notes if len(note) == 4] or not fitting(towns, notes):
                continue
            diary = Diary(towns, notes)
            for day in (0, 1, FAR):
                names = diary.names()
                best = best_order(diary, names, day)
                self.assertEqual(chosen_journey(diary, names, day), journey(diary, best, day)[1])


class EdgesTest(unittest.TestCase):

    def test_empty_lists_of_names(self):
        for diary in (Diary([], []), TWO, THREE):
            for day in (0, 7, FAR):
                self.assertEqual([journey(diary, [], day), best_order(diary, [], day), chosen_journey(diary, [], day),
                                  travel(diary, [], day)], [(0, 0), [], 0, ("home",)])
                for most in (0, 1, FAR):
                    self.assertIs(judge_travel(diary, [], day, ("home",), most), True)
                    for told in (("go", "ulm", []), ("go", "", []), ("go", "ulm", [(0, ("home",))])):
                        self.assertIs(judge_travel(diary, [], day, told, most), False)

    def test_a_town_several_times(self):
        self.assertEqual([journey(TWO, ["ulm"] * number, 0) for number in (1, 2, 3, 6)],
                         [(1, 2), (3, 4), (5, 6), (11, 12)])
        self.assertEqual([journey(TWO, ["wien"] * number, 1) for number in (1, 2, 6)], [(1, 1), (5, 5), (21, 21)])
        self.assertEqual(journey(TWO, ["ulm", "wien", "ulm", "wien", "ulm", "wien"], 0), (10, 14))
        free = Diary([("ulm", 1, 8)], [])
        self.assertEqual([journey(free, ["ulm"] * number, FAR) for number in (1, 2, 6)], [(1, 8), (2, 16), (6, 48)])

    def test_one_town(self):
        free = Diary([("ulm", 1, 3)], [])
        self.assertEqual(travel(free, ["ulm"], 5), ("go", "ulm", [(waited, ("home",)) for waited in range(3)]))
        self.assertEqual([best_order(free, ["ulm"], 5), chosen_journey(free, ["ulm"], 5)], [["ulm"], 3])
        sure = Diary([("ulm", 3, 3)], [("market", "ulm", FAR)])
        self.assertEqual([journey(sure, ["ulm"], FAR - day) for day in (0, 1, 2, 3)], [(1, 1), (2, 2), (3, 3), (1, 1)])
        self.assertEqual(travel(sure, ["ulm"], FAR - 2), ("go", "ulm", [(2, ("home",))]))

    def test_the_least_order_by_places_in_the_list_handed_in(self):
        free = Diary([("ulm", 2, 2), ("wien", 2, 2), ("bonn", 2, 2)], [])
        for names in permutations(NAMES):
            self.assertEqual(best_order(free, list(names), 3), list(names))
        for names, best in [(["ulm", "wien"], ["wien", "ulm"]), (["wien", "ulm"], ["wien", "ulm"])]:
            self.assertEqual([best_order(TWO, names, day) for day in (0, 1, FAR)], 3 * [best])
        self.assertEqual([best_order(TWO, names, 2) for names in (["ulm", "wien"], ["wien", "ulm"])],
                         [["ulm", "wien"]] * 2)

    def test_what_was_seen_chooses_the_next_town(self):
        # No market in ulm on day 0 means market in wien on it, and next on day 4: there is time for bonn ahead of it.
        diary = Diary([("ulm", 1, 2), ("wien", 4, 4), ("bonn", 1, 1)], [("one", "ulm", "wien", 0)])
        self.assertEqual(min(journey(diary, list(order), 0)[1] for order in permutations(NAMES)), 6)
        self.assertEqual(chosen_journey(diary, NAMES, 0), 5)
        last = ("go", "bonn", [(0, ("home",))])
        soon = ("go", "wien", [(waited, last) for waited in range(3)])
        late = ("go", "bonn", [(0, ("go", "wien", [(1, ("home",))]))])
        told = ("go", "ulm", [(0, soon), (1, late)])
        for most, right in [(4, False), (5, True)]:
            self.assertIs(judge_travel(diary, NAMES, 0, told, most), right)
            self.assertIs(judge_travel(diary, NAMES, 0, travel(diary, NAMES, 0), most), right)
        self.assertIs(judge_travel(diary, NAMES, 0, ("go", "ulm", [(0, late), (1, soon)]), 9), False)

    def test_days_far_away_are_as_days_by_the_turns(self):
        for day in (0, 3, 5):
            for call, names in [(journey, ["ulm", "bonn", "ulm"]), (best_order, NAMES), (chosen_journey, NAMES),
                                (travel, NAMES)]:
                self.assertEqual(call(THREE, names, day), call(THREE, names, day + 6 * 10 ** 29))


class JudgeTest(unittest.TestCase):

    def test_travels_that_are_changed(self):
        seen = []
        random = Random(65)
        for towns, notes in SMALL + some_diaries(66, 25, 3):
            cases = fitting(towns, notes)
            if not cases:
                continue
            diary = Diary(towns, notes)
            names = random.sample(diary.names(), min(len(towns), 2))
            need = chosen_journey(diary, names, 3)
            told = travel(diary, names, 3)
            for changed in [told] + travel_changes(told):
                for most in (need, max(0, need - 1), need + 2):
                    judged = judge_travel(diary, names, 3, changed, most)
                    self.assertIs(judged, judged_by_trying(towns, cases, names, 3, changed, most), (names, changed, most))
                    seen.append(judged)
        self.assertGreater(seen.count(True), 40)
        self.assertGreater(seen.count(False), 1000)

    def test_travels_of_three_towns_that_are_changed(self):
        told = travel(THREE, NAMES, 0)
        need = chosen_journey(THREE, NAMES, 0)
        cases = fitting(THREE.towns, THREE.notes)
        found = [judge_travel(THREE, NAMES, 0, changed, need) for changed in travel_changes(told)]
        self.assertEqual(found, [judged_by_trying(THREE.towns, cases, NAMES, 0, changed, need)
                                 for changed in travel_changes(told)])
        self.assertIs(judge_travel(THREE, NAMES, 0, told, need), True)
        self.assertIs(judge_travel(THREE, NAMES, 0, told, need - 1), False)
        self.assertIs(judge_travel(THREE, NAMES, 1, told, FAR), False)

    def test_rows_that_are_wrong(self):
        home = ("home",)
        one = Diary([("ulm", 1, 2)], [])
        for rows, right in [([(0, home), (1, home)], True), ([(1, home), (0, home)], False), ([(0, home)], False),
                            ([(0, home), (1, home), (1, home)], False), ([(0, home), (0, home), (1, home)], False),
                            ([(0, home), (2, home)], False), ([(-1, home), (0, home), (1, home)], False), ([], False),
                            ([(0, home), (1, home), (2, home)], False), ([(0, home), (1, ("go", "ulm", []))], False)]:
            self.assertIs(judge_travel(one, ["ulm"], 4, ("go", "ulm", rows), 2), right)
            self.assertIs(judge_travel(one, ["ulm"], 4, ("go", "ulm", rows), 1), False)

    def test_home_too_early_and_farther_than_home(self):
        home = ("home",)
        sure = Diary([("ulm", 1, 1), ("wien", 2, 2)], [("market", "wien", 0)])
        right = ("go", "ulm", [(0, ("go", "wien", [(1, home)]))])
        self.assertIs(judge_travel(sure, ["wien", "ulm"], 0, right, 3), True)
        self.assertIs(judge_travel(sure, ["wien", "ulm"], 0, right, 2), False)
        for told in (home, ("go", "ulm", [(0, home)]), ("go", "wien", [(0, home)]),
                     ("go", "ulm", [(0, ("go", "wien", [(1, ("go", "ulm", [(0, home)]))]))]),
                     ("go", "ulm", [(0, ("go", "ulm", [(0, ("go", "wien", [(0, home)]))]))]),
                     ("go", "ulm", [(0, ("go", "ulm", [(0, home)]))]), ("go", "ulm", [(0, ("go", "graz", [(0, home)]))])):
            self.assertIs(judge_travel(sure, ["wien", "ulm"], 0, told, 9), False)
        self.assertIs(judge_travel(sure, ["ulm"], 0, right, 9), False)
        self.assertIs(judge_travel(sure, ["ulm"], 0, ("go", "ulm", [(0, home)]), 1), True)

    def test_any_order_within_the_days(self):
        slow = ("go", "ulm", [(0, ("go", "wien", [(0, ("home",))])), (1, ("go", "wien", [(3, ("home",))]))])
        for most, right in [(4, False), (5, False), (6, True), (FAR, True)]:
            self.assertIs(judge_travel(TWO, ["ulm", "wien"], 0, slow, most), right)


class ErrorsTest(unittest.TestCase):

    def errors(self, diary, names, day, told, unlike=False):
        calls = [best_order, chosen_journey, travel] + ([] if unlike else [journey])
        for call in calls:
            self.assertEqual(error_of(call, diary, names, day), told, (call, names, day))
        for travelled in (("home",), ("go", "ulm", [(0, ("home",))]), ("go", "graz", [])):
            self.assertEqual(error_of(judge_travel, diary, names, day, travelled, 3), told)

    def test_names_that_are_no_towns(self):
        for diary in (TWO, QUARREL, Diary([], [])):
            for name in ("graz", "", "Ulm", "~"):
                for day in (0, -1):
                    self.errors(diary, [name], day, (UnknownTown, name))
                    self.errors(diary, [name, name, "linz"], day, (UnknownTown, name))
        for diary in (TWO, QUARREL):
            for names in (["ulm", "graz", "linz"], ["ulm", "ulm", "graz"], ["wien", "ulm", "wien", "graz", "ulm"]):
                self.errors(diary, names, -1, (UnknownTown, "graz"))

    def test_names_that_stood_before(self):
        for diary in (TWO, QUARREL):
            for names, name in [(["ulm", "ulm"], "ulm"), (["ulm", "wien", "wien", "ulm"], "wien"),
                                (["wien", "ulm", "wien"], "wien")]:
                for day in (0, -1):
                    self.errors(diary, names, day, (DoubleTown, name), unlike=True)
                self.assertEqual(error_of(journey, diary, names, -1), (InvalidDay, -1))

    def test_days_less_than_0(self):
        for diary in (TWO, QUARREL):
            for names in ([], ["ulm"], ["wien", "ulm"]):
                for day in (-1, -FAR):
                    self.errors(diary, names, day, (InvalidDay, day))

    def test_diaries_that_quarrel(self):
        for names in ([], ["ulm"], ["wien"], ["wien", "ulm"]):
            for day in (0, FAR):
                self.errors(QUARREL, names, day, (Quarrel, 0))
        self.assertEqual(error_of(journey, QUARREL, ["ulm", "ulm"], 0), (Quarrel, 0))
        self.assertIs(quarrels(QUARREL), True)


class ListsTest(unittest.TestCase):

    def lists_in(self, told):
        return [told] * isinstance(told, list) + [one for part in told if isinstance(part, (list, tuple))
                                                  for one in self.lists_in(part)]

    def test_returned_lists_are_new_and_stand_in_one_place_alone(self):
        for names in (NAMES, ["ulm"], []):
            told = travel(THREE, names, 0)
            kept = deepcopy(told)
            lists = self.lists_in(told)
            self.assertEqual(len({id(one) for one in lists}), len(lists))
            for one in lists:
                one.append(None)
            self.assertEqual(travel(THREE, names, 0), kept)
            best = best_order(THREE, names, 0)
            self.assertIsNot(best, names)
            best.append("graz")
            self.assertEqual(best_order(THREE, names, 0), best[:-1])

    def test_lists_that_are_handed_over_are_neither_changed_nor_kept(self):
        names = list(NAMES)
        told = travel(THREE, names, 0)
        kept = deepcopy(told)
        need = chosen_journey(THREE, names, 0)
        for _ in range(2):
            for call in (journey, best_order, chosen_journey, travel):
                call(THREE, names, 0)
                error_of(call, THREE, names, -1)
            self.assertIs(judge_travel(THREE, names, 0, told, need), True)
            self.assertEqual([names, told], [NAMES, kept])
        told[2].pop()
        names.pop()
        self.assertIs(judge_travel(THREE, NAMES, 0, told, need), False)
        self.assertIs(judge_travel(THREE, names, 0, kept, need), False)
        self.assertEqual(travel(THREE, NAMES, 0), kept)

    def test_lists_of_a_diary_are_not_changed(self):
        towns, notes = list(THREE.towns), list(THREE.notes)
        diary = Diary(towns, notes)
        for call in (journey, best_order, chosen_journey, travel):
            call(diary, NAMES, 3)
            self.assertEqual([diary.towns, diary.notes, towns, notes], 2 * [THREE.towns, THREE.notes])

    def test_the_same_question_asked_of_two_diaries_by_turns(self):
        more = TWO.with_note(("market", "ulm", 0))
        for _ in range(3):
            self.assertEqual([journey(one, ["ulm", "wien"], 0) for one in (TWO, more)], [(2, 6), (2, 2)])
            self.assertEqual([best_order(one, ["ulm", "wien"], 0) for one in (TWO, more)], [["wien", "ulm"], ["ulm", "wien"]])
            self.assertEqual([chosen_journey(one, ["ulm", "wien"], 0) for one in (TWO, more)], [4, 2])
            self.assertEqual(travel(more.without(1), ["ulm", "wien"], 0), travel(TWO, ["ulm", "wien"], 0))

    def test_arguments_by_name(self):
        names = ["ulm", "wien"]
        self.assertEqual(journey(day=0, order=names, diary=TWO), (2, 6))
        self.assertEqual(best_order(day=0, names=names, diary=TWO), ["wien", "ulm"])
        self.assertEqual(chosen_journey(day=0, names=names, diary=TWO), 4)
        told = travel(day=0, names=names, diary=TWO)
        self.assertIs(judge_travel(most=4, told=told, day=0, names=names, diary=TWO), True)


if __name__ == "__main__":
    unittest.main()
