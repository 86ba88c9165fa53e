"""Tests of marketdays.visits: promises [2], [3], [5], [7], [10] and its section."""

import unittest
from copy import deepcopy
from random import Random

from marketdays.cases import choices, quarrels
from marketdays.diaries import Diary
from marketdays.errors import InvalidDay, Quarrel, UnknownTown
from marketdays.visits import best_visit, hold, judge_hold, judge_plan, left, longest, plan, visits
from tests.raising import error_of
from tests.trying import FAR, GREAT, SMALL, shows, some_diaries

QUARREL = Diary([("ulm", 2, 3), ("wien", 1, 2)], [("market", "wien", 3), ("none", "wien", 3)])
ULM = Diary([("ulm", 1, 3)], [("market", "ulm", 6)])
PAIR = Diary([("ulm", 1, 4), ("wien", 2, 4)], [("one", "ulm", "wien", 5), ("none", "ulm", 3)])
ONE = Diary([("ulm", 2, 2), ("wien", 1, 1)], [("market", "ulm", 4)])
GOALS = ["choice", "turn", 0, 5, FAR]


def right_answer(choice, goal):
    """Return what is to be told of a choice."""
    return {"choice": choice, "turn": choice[0]}[goal] if goal in ("choice", "turn") else shows(choice, goal)


def answers(found, goal):
    return {right_answer(choice, goal) for choice in found}


def parted(found, day):
    """Return the choices with market on a day, and those without."""
    market = [choice for choice in found if shows(choice, day)]
    return market, [choice for choice in found if choice not in market]


def visits_by_trying(found, days, goal):
    """Return the least number of visits of any that go through days in some order, None if none do."""
    if len(answers(found, goal)) < 2:
        return 0
    needed = []
    for at, day in enumerate(days):
        parts = [visits_by_trying(part, days[:at] + days[at + 1:], goal) for part in parted(found, day) if part]
        if None not in parts:
            needed.append(1 + max(parts))
    return min(needed, default=None)


def plan_judged_by_trying(found, told, goal):
    """Return True if a plan leads some choices to the right answers, word for word as the document says."""
    if not found:
        return True
    if told is None:
        return False
    if told[0] == "told":
        return all(right_answer(choice, goal) == told[1] and (told[1] in (True, False) and isinstance(told[1], bool))
                   == isinstance(right_answer(choice, goal), bool) for choice in found)
    market, none = parted(found, told[1])
    return plan_judged_by_trying(market, told[2], goal) and plan_judged_by_trying(none, told[3], goal)


def hold_judged_by_trying(found, days, many, told, goal):
    """Return True if rows show that visits do not tell a goal, word for word as the document says."""
    for chosen, number in told:
        if [choice for choice in chosen if choice not in found] or chosen != sorted(set(chosen)):
            return False
        if len(answers(chosen, goal)) < 2:
            return False
        for day in days if number > 0 else []:
            if not [row for row in told for part in parted(chosen, day) if row[0] == part and row[1] + 1 >= number]:
                return False
    return any(number >= many for _, number in told)


def days_of(told):
    """Return the days on which a plan visits."""
    return [] if told is None or told[0] == "told" else [told[1]] + days_of(told[2]) + days_of(told[3])


def plan_changes(told, goal):
    """Return plans that are a bit unlike a plan."""
    made = [None, ("told", (2, 0)), ("told", 2), ("told", True), ("told", False), ("told", 1), ("told", 0)]
    if told is None:
        return made
    made += [("visit", 3, told, told), ("visit", 0, told, None), ("visit", 4, None, told)]
    if told[0] == "visit":
        made += [told[2], told[3], told[:2] + (told[3], told[2]), ("visit", told[1] + 1, told[2], told[3])]
        made += [told[:2] + (other, told[3]) for other in plan_changes(told[2], goal)]
        made += [told[:3] + (other,) for other in plan_changes(told[3], goal)]
    return made


def hold_changes(rows, found):
    """Return rows that are a bit unlike others."""
    made = [rows[::-1], rows + rows, [], rows[1:], [(list(found), number) for number in (-3, 0, 1, 2)]]
    for at in range(min(len(rows), 6)):
        chosen, number = rows[at]
        others = [[], [(chosen, number), (chosen, number - 5)], [(chosen, number - 1)], [(chosen, number + 1)],
                  [(chosen, -FAR)], [(chosen[::-1], number)], [(chosen + chosen[-1:], number)], [(chosen[1:], number)],
                  [(chosen[:1], number)], [([], number)], [(chosen + [(9, 0)], number)], [([(0, 0)] + chosen, number)],
                  [(sorted(set(chosen + found[:1])), number)], [(sorted(set(chosen + found[-1:])), number)]]
        made += [rows[:at] + other + rows[at + 1:] for other in others]
        made += [rows + other for other in others]
    return made


def some_days(random, most):
    return [random.choice([0, 1, 2, 3, 4, 5, 6, 7, 8, 12, FAR, FAR - 1]) for _ in range(random.randint(0, most))]


class ExamplesTest(unittest.TestCase):

    def test_the_examples_of_the_section(self):
        ulm = Diary([("ulm", 1, 3)], [("market", "ulm", 6)])
        told = plan(ulm, "ulm", [7, 8, 9], "choice")
        self.assertEqual(
            [left(ulm, "ulm", 8), best_visit(ulm, "ulm", [7, 8, 9]), visits(ulm, "ulm", [7, 8, 9], "choice"), visits(ulm, "ulm", [8], "turn"), visits(ulm, "ulm", [9], 15), longest(told), judge_plan(ulm, "ulm", told, "choice"), judge_plan(ulm, "ulm", ("told", (1, 0)), "choice")],
            [(2, 1), 7, 2, None, 1, 2, True, False])
        few = [([(2, 0), (3, 0)], 0), ([(1, 0), (2, 0)], 0), ([(1, 0), (3, 0)], 0), ([(1, 0), (2, 0), (3, 0)], 1)]
        self.assertEqual(
            [judge_hold(ulm, "ulm", [7, 8, 9], 1, few, "choice"), judge_hold(ulm, "ulm", [7, 8, 9], 2, few, "choice"), hold(ulm, "ulm", [7, 8, 9], 2, "choice"), judge_hold(ulm, "ulm", [7, 8], 1, hold(ulm, "ulm", [7, 8], 1, "turn"), "turn")],
            [True, False, None, True])


class AllOrdersTest(unittest.TestCase):

    def compare(self, diary, town, days):
        """Compare what is told with what going through all orders of days gives."""
        found = choices(diary, town)
        for day in days:
            self.assertEqual(left(diary, town, day), tuple(len(part) for part in parted(found, day)))
        worst = [max(len(part) for part in parted(found, day)) for day in days]
        self.assertEqual(best_visit(diary, town, days), days[worst.index(min(worst))] if days else None)
        for goal in GOALS:
            need = visits_by_trying(found, days, goal)
            self.assertEqual(visits(diary, town, days, goal), need)
            self.check_plan(diary, town, days, goal, need)
            for many in (0, 1, 2, 3, 4, 20):
                self.check_hold(diary, town, days, many, goal, need)

    def check_plan(self, diary, town, days, goal, need):
        told = plan(diary, town, days, goal)
        if need is None:
            self.assertIsNone(told)
            return
        self.assertEqual(longest(told), need)
        self.assertLessEqual(set(days_of(told)), set(days))
        self.assertIs(judge_plan(diary, town, told, goal), True)
        self.assertTrue(plan_judged_by_trying(choices(diary, town), told, goal))

    def check_hold(self, diary, town, days, many, goal, need):
        rows = hold(diary, town, days, many, goal)
        if need is not None and need <= many:
            self.assertIsNone(rows)
            return
        self.assertIsInstance(rows, list)
        self.assertIs(judge_hold(diary, town, days, many, rows, goal), True)
        self.assertTrue(hold_judged_by_trying(choices(diary, town), days, many, rows, goal))

    def test_diaries_of_each_kind(self):
        random = Random(41)
        for towns, notes in SMALL:
            diary = Diary(towns, notes)
            for town in [] if quarrels(diary) else diary.names():
                with self.subTest(towns=towns, notes=notes, town=town):
                    self.compare(diary, town, some_days(random, 4))
                    self.compare(diary, town, [3, 4, 2])

    def test_some_diaries(self):
        random = Random(42)
        for towns, notes in some_diaries(43, 60, 4):
            diary = Diary(towns, notes)
            for town in [] if quarrels(diary) else diary.names():
                with self.subTest(towns=towns, notes=notes, town=town):
                    self.compare(diary, town, some_days(random, 4))

    def test_great_towns(self):
        random = Random(44)
        for towns, notes in GREAT:
            diary = Diary(towns, notes)
            for days in ([0, 2, 3, 5, 7], some_days(random, 5)):
                with self.subTest(towns=towns, notes=notes, days=days):
                    self.compare(diary, "ulm", days)

    def test_twelve_days(self):
        diary = Diary([("ulm", 1, 8)], [])
        for days in (list(range(12)), [0, 1, 2, 3, 4, 5, 6, 7, 12, 14, 16, 24], [FAR - 3 * day for day in range(12)]):
            for goal in GOALS:
                need = visits(diary, "ulm", days, goal)
                self.check_plan(diary, "ulm", days, goal, need)
                for many in ([20] if need is None else range(need)):
                    rows = hold(diary, "ulm", days[:8], many, goal)
                    self.assertIs(judge_hold(diary, "ulm", days[:8], many, rows, goal), True)
                    if need is not None:
                        self.check_hold(diary, "ulm", days, many, goal, need)

    def test_visits_tell_a_choice_exactly_if_no_two_do_the_same_on_all_days(self):
        random = Random(45)
        for towns, notes in some_diaries(46, 60, 8):
            diary = Diary(towns, notes)
            for town in [] if quarrels(diary) else diary.names():
                days = some_days(random, 10)
                found = choices(diary, town)
                shown = {tuple(shows(choice, day) for day in days) for choice in found}
                self.assertIs(visits(diary, town, days, "choice") is not None, len(shown) == len(found))
                self.assertEqual(visits(diary, town, days + days[::-1], "choice"), visits(diary, town, days, "choice"))

    def test_days_twice_and_in_any_order(self):
        for days in ([7, 8, 9], [9, 8, 7], [8, 7, 8, 9, 7, 9], [7, 7, 7, 8]):
            self.assertEqual([visits(ULM, "ulm", days, goal) for goal in ("choice", "turn", 8, 10, 6)], [2, 2, 1, 1, 0])
        self.assertEqual([visits(ULM, "ulm", [7, 7], goal) for goal in ("choice", "turn", 7, 8, 6)],
                         [None, None, 1, None, 0])
        # The note is of day 6: days ahead of it tell as much.
        self.assertEqual([visits(ULM, "ulm", days, "choice") for days in ([1, 2], [3, 4], [0, 6])], [2, 2, None])

    def test_each_visit_is_chosen_by_what_the_ones_ahead_showed(self):
        diary = Diary([("ulm", 4, 4)], [])
        self.assertEqual([visits(diary, "ulm", days, "choice") for days in ([0, 1, 2], [0, 1, 2, 3], [0, 1], [0, 4, 8])],
                         [3, 3, None, None])
        self.assertEqual([visits(diary, "ulm", [0, 1, 2], goal) for goal in ("turn", 0, 3, 5, 7)], [0, 1, 3, 1, 3])
        # Whatever day 0 shows, day 3 tells the turn then, but not the choice.
        wide = Diary([("ulm", 2, 3)], [])
        self.assertEqual([visits(wide, "ulm", days, goal) for goal in ("choice", "turn")
                          for days in ([0, 1, 2, 3], [0, 2, 3], [0, 3], [0, 2])], [3, 3, None, None, 2, 2, 2, None])


class BestVisitTest(unittest.TestCase):

    def test_the_first_of_several_days(self):
        diary = Diary([("ulm", 4, 4)], [("none", "ulm", 3)])
        self.assertEqual([left(diary, "ulm", day) for day in (0, 3, 5, FAR)], [(1, 2), (0, 3), (1, 2), (1, 2)])
        self.assertEqual([best_visit(diary, "ulm", days) for days in ([3, 5, 0], [3, 0, 5], [7, 3], [3], [FAR, 0], [])],
                         [5, 0, 7, 3, FAR, None])

    def test_one_choice(self):
        self.assertEqual([left(ONE, "ulm", 5), left(ONE, "ulm", 6), left(ONE, "wien", 0)], [(0, 1), (1, 0), (1, 0)])
        self.assertEqual([best_visit(ONE, "ulm", [5, 6]), best_visit(ONE, "ulm", [])], [5, None])
        for goal in GOALS:
            for days in ([], [3], [3, 4, 3]):
                self.assertEqual(visits(ONE, "ulm", days, goal), 0)
                self.assertEqual(plan(ONE, "ulm", days, goal), ("told", right_answer((2, 0), goal)))
                for many in (0, 1, 20):
                    self.assertIsNone(hold(ONE, "ulm", days, many, goal))
                    for rows in ([], [([(2, 0)], many)], [([], many)], [([(2, 0), (2, 0)], 20)], [([(2, 0), (2, 1)], 20)]):
                        self.assertIs(judge_hold(ONE, "ulm", days, many, rows, goal), False)


class PlanTest(unittest.TestCase):

    def test_plans_that_are_changed(self):
        seen = []
        for towns, notes in SMALL + some_diaries(47, 25, 3):
            diary = Diary(towns, notes)
            for town in [] if quarrels(diary) else diary.names()[:2]:
                for goal in ("choice", "turn", 5):
                    told = plan(diary, town, [0, 1, 2, 3, 4, 5], goal)
                    for changed in [told] + plan_changes(told, goal):
                        for other in ("choice", "turn", 5, 0):
                            judged = judge_plan(diary, town, changed, other)
                            self.assertIs(judged, plan_judged_by_trying(choices(diary, town), changed, other))
                            seen.append(judged)
        self.assertGreater(min(seen.count(True), seen.count(False)), 1000)

    def test_plans_that_end_too_early(self):
        two = ("visit", 7, ("told", (1, 0)), ("visit", 8, ("told", (2, 0)), ("told", (3, 0))))
        self.assertIs(judge_plan(ULM, "ulm", two, "choice"), True)
        for told in (None, ("told", (1, 0)), two[2], two[3], two[:3] + (None,), two[:2] + (None, two[3]),
                     two[:3] + (two[3][:3] + (None,),), two[:3] + (("told", (2, 0)),)):
            self.assertIs(judge_plan(ULM, "ulm", told, "choice"), False)

    def test_what_no_choice_comes_to_does_not_matter(self):
        two = ("visit", 7, ("told", (1, 0)), ("visit", 8, ("told", (2, 0)), ("told", (3, 0))))
        for free in (None, ("told", (5, 5)), ("told", True), ("visit", -5, None, None), ("visit", 3, two, two)):
            # On day 6 all have market, and on day 7 only the one of turn 1 has, as on day 8 of these.
            self.assertIs(judge_plan(ULM, "ulm", ("visit", 6, two, free), "choice"), True)
            self.assertIs(judge_plan(ULM, "ulm", ("visit", 6, free, two), "choice"), False if free != ("visit", 3, two, two)
                          else True)
            told = ("visit", 7, ("visit", 8, ("told", (1, 0)), free), two[3])
            self.assertIs(judge_plan(ULM, "ulm", told, "choice"), True)

    def test_days_within_a_plan_are_not_checked(self):
        told = ("visit", -5, ("told", (1, 0)), ("visit", -4, ("told", (2, 0)), ("told", (3, 0))))
        self.assertIs(judge_plan(ULM, "ulm", told, "choice"), True)
        self.assertIs(judge_plan(ULM, "ulm", ("visit", -6, told, None), "choice"), True)
        self.assertEqual(longest(told), 2)

    def test_answers_of_each_kind_of_goal(self):
        for goal, right, wrong in [("choice", (2, 0), [2, True, False, 0, (2, 1), (1, 0)]),
                                   ("turn", 2, [(2, 0), True, False, 0, 1, 3]),
                                   (4, True, [1, 2, False, (2, 0), 0]), (5, False, [0, True, (2, 0), 1])]:
            self.assertIs(judge_plan(ONE, "ulm", ("told", right), goal), True)
            for other in wrong:
                self.assertIs(judge_plan(ONE, "ulm", ("told", other), goal), False)
        self.assertIs(judge_plan(ONE, "wien", ("told", 1), "turn"), True)
        self.assertIs(judge_plan(ONE, "wien", ("told", True), "turn"), False)
        self.assertIs(judge_plan(ONE, "wien", ("told", 1), 7), False)

    def test_plans_of_other_days_and_more_visits(self):
        far = Diary([("ulm", 1, 3)], [("market", "ulm", FAR)])
        self.assertEqual(choices(far, "ulm"), [(1, 0), (2, 0), (3, 1)])
        last = ("visit", 8, ("told", 2), ("told", 3))
        late = ("visit", FAR + 1, ("told", 1), ("visit", FAR + 1, None, last))
        self.assertIs(judge_plan(far, "ulm", late, "turn"), True)
        self.assertIs(judge_plan(far, "ulm", ("visit", FAR, late, None), "turn"), True)
        self.assertIs(judge_plan(far, "ulm", ("visit", FAR + 1, last, late), "turn"), False)
        self.assertEqual(longest(late), 3)

    def test_longest(self):
        end = ("told", 3)
        one = ("visit", 3, end, None)
        self.assertEqual([longest(told) for told in (None, end, one, ("visit", 3, None, None), ("visit", 3, one, end),
                                                     ("visit", 3, one, ("visit", 3, end, one)))],
                         [0, 0, 1, 1, 2, 3])

    def test_plans_of_200_visits(self):
        for side in (2, 3):
            told = ("told", (2, 0))
            for visit in range(200):
                told = ("visit", 2 * visit, told, None) if side == 2 else ("visit", 2 * visit + 1, None, told)
            self.assertEqual(longest(told), 200)
            self.assertIs(judge_plan(ONE, "ulm", told, "choice"), True)
            self.assertIs(judge_plan(ONE, "ulm", told, "turn"), False)
            self.assertIs(judge_plan(Diary([("ulm", 2, 2)], []), "ulm", told, "choice"), False)

    def test_a_plan_that_stands_in_many_places_of_another_one(self):
        told = ("told", True)
        for visit in range(200):
            told = ("visit", visit, told, told)
        self.assertEqual(longest(told), 200)
        self.assertIs(judge_plan(ONE, "ulm", told, 4), True)
        self.assertIs(judge_plan(ONE, "ulm", told, 5), False)


class HoldTest(unittest.TestCase):

    def test_rows_that_are_changed(self):
        seen = []
        random = Random(48)
        for towns, notes in SMALL[4:20] + some_diaries(49, 25, 4):
            diary = Diary(towns, notes)
            for town in [] if quarrels(diary) else diary.names()[:2]:
                days = some_days(random, 3)
                for goal in ("choice", "turn", 5):
                    need = visits(diary, town, days, goal)
                    many = 2 if need is None else max(0, need - 1)
                    rows = hold(diary, town, days, many, goal) or []
                    for changed in [rows] + hold_changes(rows, choices(diary, town)):
                        for more in (0, 1):
                            judged = judge_hold(diary, town, days, many + more, changed, goal)
                            told = hold_judged_by_trying(choices(diary, town), days, many + more, changed, goal)
                            self.assertIs(judged, told, (towns, notes, days, goal, many + more, changed))
                            if judged:
                                self.assertTrue(need is None or need > many + more)
                            seen.append(judged)
        self.assertGreater(min(seen.count(True), seen.count(False)), 500)

    def test_rows_in_any_order_and_twice(self):
        few = [([(2, 0), (3, 0)], 0), ([(1, 0), (2, 0)], 0), ([(1, 0), (3, 0)], 0), ([(1, 0), (2, 0), (3, 0)], 1)]
        for rows in (few[::-1], few + few, few[2:] + few[:2], few + [([(1, 0), (2, 0)], -7)],
                     few + [([(1, 0), (2, 0), (3, 0)], 0)], few[1:] + few[:1]):
            self.assertIs(judge_hold(ULM, "ulm", [7, 8, 9], 1, rows, "choice"), True)
        # On day 9 the turns 1 and 3 have market: without this day their row is not wanted.
        self.assertIs(judge_hold(ULM, "ulm", [7, 8], 1, few[:2] + few[3:], "choice"), True)
        for rows in (few[1:], few[:1] + few[2:], few[:2] + few[3:], few[:3], [], [(few[0][0], -1)] + few[1:],
                     few + [([(1, 0)], 0)], few + [([(2, 0), (1, 0)], 0)], few + [([(1, 0), (4, 0)], 0)]):
            self.assertIs(judge_hold(ULM, "ulm", [7, 8, 9], 1, rows, "choice"), False)

    def test_numbers_that_are_lesser_and_greater(self):
        both = [(1, 0), (2, 0)]
        # Day 6 and 8 part nothing of both: the row itself is what is left, with any number.
        for number in (0, 1, 20, FAR):
            self.assertIs(judge_hold(ULM, "ulm", [6, 8], 0, [(both, number)], "turn"), True)
            self.assertIs(judge_hold(ULM, "ulm", [6, 8], 20, [(both, number)], "turn"), number >= 20)
            self.assertIs(judge_hold(ULM, "ulm", [6, 7], 0, [(both, number)], "turn"), number == 0)
            self.assertIs(judge_hold(ULM, "ulm", [6, 7], 0, [(both, -1 - number)], "turn"), False)
        self.assertIs(judge_hold(ULM, "ulm", [6, 7], 0, [(both, -1), (both, 0)], "turn"), True)
        self.assertIs(judge_hold(ULM, "ulm", [6, 7], 0, [(both, -1), (both, 1)], "turn"), False)

    def test_a_goal_that_is_told_without_visits(self):
        for many in (0, 3):
            self.assertIsNone(hold(ULM, "ulm", [7, 8], many, 12))
            self.assertIs(judge_hold(ULM, "ulm", [7, 8], many, [([(1, 0), (2, 0)], many)], 12), False)
            self.assertIs(judge_hold(ULM, "ulm", [6], many, [([(1, 0), (2, 0)], many)], 13), True)
            self.assertIs(judge_hold(ULM, "ulm", [6], many, [([(2, 0), (3, 0)], many)], 13), False)

    def test_no_days(self):
        self.assertEqual([visits(ULM, "ulm", [], goal) for goal in ("choice", "turn", 7, 6)], [None, None, None, 0])
        self.assertEqual([plan(ULM, "ulm", [], goal) for goal in ("choice", 7, 6)], [None, None, ("told", True)])
        for many in (0, 1, 20):
            rows = hold(ULM, "ulm", [], many, "turn")
            self.assertIs(judge_hold(ULM, "ulm", [], many, rows, "turn"), True)
            self.assertIs(judge_hold(ULM, "ulm", [], many + 1, [([(1, 0), (2, 0)], many)], "turn"), False)

    def test_what_hold_returns_where_visits_tell_is_judged_false(self):
        self.assertIsNone(hold(ULM, "ulm", [7, 8], 2, "choice"))
        self.assertIs(judge_hold(ULM, "ulm", [7, 8], 2, None, "choice"), False)


class ErrorsTest(unittest.TestCase):

    def asks(self, town, day, goal, many):
        """Return calls with their arguments behind the diary: all that take these, by what they take."""
        of_day = [(left, (town, day)), (best_visit, (town, [3, day]))]
        of_days = [(visits, (town, [3, day, 4], goal)), (plan, (town, [day], goal))]
        of_many = [(hold, (town, [day, 3], many, goal)), (judge_hold, (town, [5, day], many, [], goal))]
        return of_day, of_days, of_many, [(judge_plan, (town, None, goal))]

    def errors(self, diary, asks, told):
        for call, rest in asks:
            self.assertEqual(error_of(call, diary, *rest), told, (call, rest))

    def test_names_that_are_no_towns(self):
        for diary in (ULM, QUARREL, Diary([], [])):
            for name in ("graz", "", "Ulm", "~"):
                for day, goal, many in [(3, "turn", 2), (-1, -2, -3)]:
                    for asks in self.asks(name, day, goal, many):
                        self.errors(diary, asks, (UnknownTown, name))
                for call, rest in [(best_visit, ([],)), (visits, ([], "turn")), (hold, ([], 0, "turn"))]:
                    self.assertEqual(error_of(call, diary, name, *rest), (UnknownTown, name))

    def test_days_less_than_0(self):
        for diary in (ULM, QUARREL):
            for day in (-1, -FAR):
                for goal, many in [("choice", 2), (-2, -3), (3, -4)]:
                    for asks in self.asks("ulm", day, goal, many)[:3]:
                        self.errors(diary, asks, (InvalidDay, day))
            for call, rest in [(best_visit, ()), (visits, ("turn",)), (plan, (-9,)), (hold, (-9, 3)),
                               (judge_hold, (-9, [], -9))]:
                self.assertEqual(error_of(call, diary, "ulm", [3, -5, -7], *rest), (InvalidDay, -5))

    def test_goals_less_than_0(self):
        for diary in (ULM, QUARREL):
            for goal in (-1, -FAR):
                for many in (3, -4):
                    for asks in self.asks("ulm", 3, goal, many)[1:]:
                        self.errors(diary, asks, (InvalidDay, goal))

    def test_numbers_of_visits_less_than_0(self):
        for diary in (ULM, QUARREL):
            for many in (-1, -FAR):
                for goal in ("choice", "turn", 3):
                    self.errors(diary, self.asks("ulm", 3, goal, many)[2], (InvalidDay, many))

    def test_diaries_that_quarrel(self):
        for town in ("ulm", "wien"):
            for goal in ("choice", "turn", 0):
                for asks in self.asks(town, 0, goal, 0):
                    self.errors(QUARREL, asks, (Quarrel, 0))
            self.assertEqual(error_of(best_visit, QUARREL, town, []), (Quarrel, 0))
            self.assertEqual(error_of(judge_hold, QUARREL, town, [], 0, [([(9, 9)], 0)], "turn"), (Quarrel, 0))


class ListsTest(unittest.TestCase):

    def test_returned_lists_are_new_and_stand_in_one_place_alone(self):
        for days, many, goal in [([7, 8], 1, "choice"), ([6], 5, "turn"), ([0, 1, 2, 3], 2, "choice")]:
            for diary in (ULM, PAIR):
                rows = hold(diary, "ulm", days, many, goal)
                if rows is None:
                    continue
                kept = deepcopy(rows)
                lists = [chosen for chosen, _ in rows]
                self.assertEqual(len({id(chosen) for chosen in lists}), len(lists))
                self.assertEqual({(type(row), type(row[0])) for row in rows}, {(tuple, list)})
                for chosen in lists:
                    chosen.append((1, 0))
                rows.append(None)
                self.assertEqual(hold(diary, "ulm", days, many, goal), kept)

    def test_lists_that_are_handed_over_are_neither_changed_nor_kept(self):
        days = [8, 7, 9, 7]
        rows = [([(2, 0), (3, 0)], 0), ([(1, 0), (2, 0)], 0), ([(1, 0), (3, 0)], 0), ([(1, 0), (2, 0), (3, 0)], 1)]
        kept = deepcopy(rows)
        for _ in range(2):
            told = plan(ULM, "ulm", days, "choice")
            self.assertEqual([best_visit(ULM, "ulm", days), visits(ULM, "ulm", days, "choice"),
                              judge_hold(ULM, "ulm", days, 1, rows, "choice"), judge_plan(ULM, "ulm", told, "choice")],
                             [8, 2, True, True])
            held = hold(ULM, "ulm", days, 1, "choice")
            error_of(judge_hold, ULM, "ulm", days, -1, rows, "choice")
            self.assertEqual([days, rows], [[8, 7, 9, 7], kept])
        rows[1][0].append((3, 0))
        days[:] = [6]
        self.assertIs(judge_hold(ULM, "ulm", [7, 8, 9], 1, rows, "choice"), False)
        self.assertEqual([visits(ULM, "ulm", days, "choice"), visits(ULM, "ulm", [8, 7, 9, 7], "choice")], [None, 2])
        self.assertIs(judge_hold(ULM, "ulm", [8, 7, 9, 7], 1, held, "choice"), True)

    def test_lists_of_a_diary_are_not_changed(self):
        towns, notes = list(PAIR.towns), list(PAIR.notes)
        diary = Diary(towns, notes)
        for _ in range(2):
            left(diary, "ulm", 3)
            plan(diary, "wien", [3, 4], "choice")
            hold(diary, "ulm", [3, 4], 1, 7)
            error_of(visits, diary, "ulm", [-1], 7)
            self.assertEqual([diary.towns, diary.notes, towns, notes], 2 * [PAIR.towns, PAIR.notes])

    def test_the_same_question_asked_of_two_diaries_by_turns(self):
        more = ULM.with_note(("none", "ulm", 7))
        for _ in range(3):
            self.assertEqual([visits(ULM, "ulm", [8], "turn"), visits(more, "ulm", [8], "turn")], [None, 1])
            self.assertEqual([left(ULM, "ulm", 8), left(more, "ulm", 8)], [(2, 1), (1, 1)])
            self.assertEqual([hold(one, "ulm", [8], 1, "turn") is None for one in (ULM, more)], [False, True])
            self.assertEqual(left(more.without(1), "ulm", 8), (2, 1))

    def test_arguments_by_name(self):
        self.assertEqual(left(day=8, town="ulm", diary=ULM), (2, 1))
        self.assertEqual(best_visit(days=[7, 8], town="ulm", diary=ULM), 7)
        self.assertEqual(visits(goal="choice", days=[7, 8], town="ulm", diary=ULM), 2)
        told = plan(goal="choice", days=[7, 8], town="ulm", diary=ULM)
        self.assertIs(judge_plan(goal="choice", told=told, town="ulm", diary=ULM), True)
        self.assertEqual(longest(told=told), 2)
        rows = hold(goal="choice", many=1, days=[7, 8], town="ulm", diary=ULM)
        self.assertIs(judge_hold(goal="choice", told=rows, many=1, days=[7, 8], town="ulm", diary=ULM), True)


if __name__ == "__main__":
    unittest.main()
