"""Tests of marketdays.lots: promises [2], [3], [4] and its section."""

import unittest
from copy import deepcopy
from itertools import combinations
from math import lcm

from marketdays.errors import InvalidDay, InvalidLot
from marketdays.lots import has, joined, less, lot, met, next_day, number, widest
from tests.raising import error_of

FAR = 10 ** 30


def lots_up_to(most):
    """Return all lots with `every` up to a number, whether it is the least or not."""
    return [(every, list(rests)) for every in range(1, most + 1)
            for many in range(every + 1) for rests in combinations(range(every), many)]


def days_of(one, many):
    """Return the days of a lot below a number."""
    return [day for day in range(many) if day % one[0] in one[1]]


def told_by_trying(one):
    """Return the told lot of a lot, by trying each `every` from 1 on."""
    days = days_of(one, 3 * one[0])
    for every in range(1, one[0] + 1):
        rests = [day for day in days if day < every]
        if days_of((every, rests), 3 * one[0]) == days:
            return every, rests


class ExamplesTest(unittest.TestCase):

    def test_the_examples_of_the_section(self):
        self.assertEqual(
            [lot(4, [1, 3, 5]), met((2, [0]), (3, [1])), joined((2, [0]), (4, [1])), less((1, [0]), (3, [2])), has((6, [4]), 10 ** 30), next_day((6, [4]), 11), number((6, [4]), 0, 10 ** 30), widest((6, [0, 4])), widest((1, []))],
            [(2, [1]), (6, [4]), (4, [0, 1, 2]), (3, [0, 1]), True, 16, 166666666666666666666666666667, 3, None])


class LotTest(unittest.TestCase):

    def test_every_1_no_rests_and_all_rests(self):
        self.assertEqual(lot(1, []), (1, []))
        self.assertEqual(lot(1, [0]), (1, [0]))
        self.assertEqual(lot(1, [7, -3, FAR]), (1, [0]))
        for every in (2, 7, 12, 360, 5040, FAR, 10 ** 31 - 1):
            self.assertEqual(lot(every, []), (1, []))
        for every in (2, 7, 12, 360, 5040):
            self.assertEqual(lot(every, list(range(every))), (1, [0]))

    def test_the_least_every_tells_each_lot(self):
        for one in lots_up_to(10):
            self.assertEqual(lot(*one), told_by_trying(one))

    def test_rests_in_any_order_twice_and_below_0(self):
        self.assertEqual(lot(5, [4, 0, 2]), (5, [0, 2, 4]))
        self.assertEqual(lot(5, [2, 2, 7, 12]), (5, [2]))
        self.assertEqual(lot(5, [-1, -5, -13]), (5, [0, 2, 4]))
        self.assertEqual(lot(6, [-1, 8]), (3, [2]))

    def test_rests_and_every_of_31_digits(self):
        long = 10 ** 31 - 1
        self.assertEqual(lot(7, [long, -long]), (7, sorted([long % 7, -long % 7])))
        self.assertEqual(lot(FAR, [0]), (FAR, [0]))
        self.assertEqual(lot(long, [long - 1, -2]), (long, [long - 2, long - 1]))
        self.assertEqual(lot(FAR, [3 * FAR + 1, FAR // 2 + 1]), (FAR // 2, [1]))
        self.assertEqual(lot(3 * 10 ** 30, [5, FAR + 5, 2 * FAR + 5, 2 * FAR + 6]),
                         (3 * FAR, [5, FAR + 5, 2 * FAR + 5, 2 * FAR + 6]))

    def test_5040_rests(self):
        step = 10 ** 27
        rests = [k * step + 3 for k in range(5040)]
        self.assertEqual(lot(5040 * step, rests), (step, [3]))
        self.assertEqual(lot(5040 * step, list(reversed(rests))), (step, [3]))
        self.assertEqual(lot(5040 * step, rests[:-1]), (5040 * step, rests[:-1]))
        pairs = [rest for k in range(2520) for rest in (2 * k * step, 2 * k * step + 1)]
        self.assertEqual(lot(5040 * step, pairs), (2 * step, [0, 1]))

    def test_every_less_than_1(self):
        for every in (0, -1, -5040, -10 ** 31 + 1):
            for rests in ([], [0], [3, 1, 3, -2]):
                self.assertEqual(error_of(lot, every, rests), (InvalidLot, (every, rests)))


class TwoLotsTest(unittest.TestCase):

    def test_all_small_lots(self):
        small = lots_up_to(4) + [(6, [0, 4]), (6, [1, 3, 5]), (5, [2])]
        for one in small:
            for other in small:
                every = lcm(one[0], other[0])
                mine, others = days_of(one, every), days_of(other, every)
                both = [day for day in range(every) if day in mine and day in others]
                any_of = [day for day in range(every) if day in mine or day in others]
                rest = [day for day in mine if day not in others]
                self.assertEqual(met(one, other), told_by_trying((every, both)))
                self.assertEqual(joined(one, other), told_by_trying((every, any_of)))
                self.assertEqual(less(one, other), told_by_trying((every, rest)))

    def test_a_least_common_multiple_up_to_5040(self):
        for one, other in [((16, [3, 5]), (315, [0, 4, 7, 314])), ((5040, [0, 5039]), (5040, [0, 9])),
                           ((63, list(range(62))), (80, list(range(1, 80)))), ((71, [0]), (70, [69]))]:
            every = lcm(one[0], other[0])
            mine = set(days_of(one, every))
            others = set(days_of(other, every))
            self.assertEqual(met(one, other), lot(every, list(mine & others)))
            self.assertEqual(joined(one, other), lot(every, list(mine | others)))
            self.assertEqual(less(one, other), lot(every, list(mine - others)))
            self.assertEqual(number(met(one, other), 0, every - 1), len(mine & others))
            self.assertEqual(number(joined(one, other), 0, every - 1), len(mine | others))
            self.assertEqual(number(less(one, other), 0, every - 1), len(mine - others))

    def test_the_lot_of_all_days_and_the_lot_of_none(self):
        everything, nothing, some = (1, [0]), (1, []), (6, [1, 4, 5])
        self.assertEqual(met(everything, some), some)
        self.assertEqual(met(some, nothing), nothing)
        self.assertEqual(joined(some, everything), everything)
        self.assertEqual(joined(nothing, some), some)
        self.assertEqual(less(some, everything), nothing)
        self.assertEqual(less(some, nothing), some)
        self.assertEqual(less(everything, some), (6, [0, 2, 3]))
        self.assertEqual(less(everything, everything), nothing)
        self.assertEqual(joined(some, (6, [0, 2, 3])), everything)
        self.assertEqual(met((4, [0, 1, 2, 3]), (9, list(range(9)))), everything)
        self.assertEqual(joined((4, []), (9, [])), nothing)

    def test_the_least_every_where_one_has_another(self):
        self.assertEqual(met((4, [0, 2]), (4, [0, 2])), (2, [0]))
        self.assertEqual(joined((4, [0]), (4, [2])), (2, [0]))
        self.assertEqual(less((4, [0, 1, 2]), (2, [1])), (2, [0]))


class DaysTest(unittest.TestCase):

    def test_has(self):
        for one in lots_up_to(5):
            days = days_of(one, 15)
            for day in range(15):
                self.assertIs(has(one, day), day in days)
        self.assertIs(has((7, [FAR % 7]), FAR), True)
        self.assertIs(has((7, [FAR % 7]), FAR - 1), False)
        self.assertIs(has((1, [0]), FAR), True)
        self.assertIs(has((1, []), 0), False)

    def test_next_day(self):
        for one in lots_up_to(5):
            days = days_of(one, 30)
            for day in range(15):
                later = [found for found in days if found >= day]
                self.assertEqual(next_day(one, day), later[0] if later else None)
        self.assertEqual(next_day((7, [FAR % 7]), FAR), FAR)
        self.assertEqual(next_day((7, [FAR % 7]), FAR + 1), FAR + 7)
        self.assertEqual(next_day((5040, [5039]), 0), 5039)
        self.assertIsNone(next_day((6, []), FAR))

    def test_number(self):
        for one in lots_up_to(4):
            days = days_of(one, 14)
            for low in range(14):
                for high in range(14):
                    counted = len([day for day in days if low <= day <= high])
                    self.assertEqual(number(one, low, high), counted)

    def test_number_of_far_days(self):
        self.assertEqual(number((1, [0]), 0, FAR), FAR + 1)
        self.assertEqual(number((1, []), 0, FAR), 0)
        self.assertEqual(number((7, [0, 3]), 0, 7 * FAR), 2 * FAR + 1)
        self.assertEqual(number((2, [0]), FAR, FAR), 1)
        self.assertEqual(number((2, [1]), FAR, FAR), 0)

    def test_number_where_the_last_day_is_less(self):
        for one in [(1, [0]), (2, [1]), (3, []), (4, [0, 2])]:
            for low, high in [(1, 0), (5, 3), (9, 1), (FAR, 0), (FAR, FAR - 1)]:
                self.assertEqual(number(one, low, high), 0)

    def test_widest(self):
        for one in lots_up_to(7):
            days = days_of(one, 21)
            waits = [min([later for later in days if later >= day]) - day for day in range(one[0])] if days else [None]
            self.assertEqual(widest(one), max(waits))
        self.assertEqual(widest((5040, [17])), 5039)
        self.assertEqual(widest((5040, list(range(5040)))), 0)
        self.assertEqual(widest((1, [0])), 0)
        self.assertIsNone(widest((5040, [])))

    def test_a_widest_gap_at_each_place(self):
        self.assertEqual(widest((10, [0, 1, 2])), 7)
        self.assertEqual(widest((10, [0, 8, 9])), 7)
        self.assertEqual(widest((10, [1, 9])), 7)
        self.assertEqual(widest((10, [5])), 9)


WRONG = [(0, []), (0, [0]), (-1, []), (-4, [0, 1]), (3, [3]), (3, [0, 3]), (3, [-1]), (3, [-1, 0]), (3, [1, 0]),
         (3, [1, 1]), (3, [0, 1, 1]), (5, [0, 4, 2]), (1, [1]), (1, [0, 0]), (2, [FAR]), (2, [-FAR])]
RIGHT = [(1, []), (1, [0]), (4, [0, 2]), (6, [1, 5]), (3, [0, 1, 2])]
DAY_CALLS = [(has, 1), (next_day, 1), (number, 2)]


class ErrorsTest(unittest.TestCase):

    def test_a_lot_that_is_none(self):
        for wrong in WRONG:
            self.assertEqual(error_of(widest, wrong), (InvalidLot, wrong))
            for call, many in DAY_CALLS:
                self.assertEqual(error_of(call, wrong, *[3] * many), (InvalidLot, wrong))
            for call in (met, joined, less):
                for right in RIGHT:
                    self.assertEqual(error_of(call, wrong, right), (InvalidLot, wrong))
                    self.assertEqual(error_of(call, right, wrong), (InvalidLot, wrong))

    def test_the_first_of_two_lots_that_are_none(self):
        for call in (met, joined, less):
            self.assertEqual(error_of(call, (3, [3]), (0, [])), (InvalidLot, (3, [3])))
            self.assertEqual(error_of(call, (0, []), (3, [3])), (InvalidLot, (0, [])))

    def test_lots_whose_every_is_not_the_least_are_lots(self):
        for right in [(4, [0, 2]), (3, [0, 1, 2]), (5, []), (5040, [0, 2520])]:
            self.assertIsNone(error_of(widest, right))
            self.assertIsNone(error_of(met, right, right))
            for call, many in DAY_CALLS:
                self.assertIsNone(error_of(call, right, *[3] * many))

    def test_a_day_less_than_0(self):
        for right in RIGHT:
            for day in (-1, -7, -FAR):
                self.assertEqual(error_of(has, right, day), (InvalidDay, day))
                self.assertEqual(error_of(next_day, right, day), (InvalidDay, day))
                self.assertEqual(error_of(number, right, day, 5), (InvalidDay, day))
                self.assertEqual(error_of(number, right, 5, day), (InvalidDay, day))
                self.assertEqual(error_of(number, right, day, -2), (InvalidDay, day))
                self.assertEqual(error_of(number, right, -3, day), (InvalidDay, -3))

    def test_the_lot_is_checked_ahead_of_the_days(self):
        for wrong in WRONG:
            self.assertEqual(error_of(has, wrong, -1), (InvalidLot, wrong))
            self.assertEqual(error_of(next_day, wrong, -1), (InvalidLot, wrong))
            self.assertEqual(error_of(number, wrong, -1, -2), (InvalidLot, wrong))


class ListsTest(unittest.TestCase):

    def test_day_0_is_a_day(self):
        for right in RIGHT:
            for call, many in DAY_CALLS:
                self.assertIsNone(error_of(call, right, *[0] * many))

    def test_nothing_handed_over_is_changed(self):
        rests = [5, 1, 3, 1, -1]
        lot(6, rests)
        self.assertEqual(rests, [5, 1, 3, 1, -1])
        for one in WRONG + RIGHT:
            for other in WRONG + RIGHT:
                told = deepcopy((one, other))
                for call in (met, joined, less):
                    error_of(call, one, other)
                self.assertEqual((one, other), told)
            told = deepcopy(one)
            error_of(widest, one)
            for call, many in DAY_CALLS:
                error_of(call, one, *[4] * many)
            self.assertEqual(one, told)

    def test_returned_lists_are_new(self):
        one = (5, [0, 2])
        for call, arguments in [(lot, one), (met, (one, one)), (met, (one, (1, [0]))), (joined, (one, one)),
                                (joined, ((1, []), one)), (less, (one, (1, [])))]:
            every, rests = call(*arguments)
            self.assertEqual((every, rests), one)
            rests.append(9)
            self.assertEqual(one, (5, [0, 2]))
            self.assertEqual(call(*arguments), one)
        for every, rests in [(1, []), (1, [0])]:
            for _ in range(2):
                told = lot(every, rests)
                self.assertEqual(told, (every, rests))
                told[1].append(4)

    def test_lists_that_errors_hold_are_new(self):
        rests = [7, 3]
        for call, arguments in [(lot, (0, rests)), (widest, ((5, rests),)), (has, ((5, rests), 1)),
                                (next_day, ((5, rests), 1)), (number, ((5, rests), 1, 1)),
                                (met, ((5, rests), (1, [0]))), (joined, ((1, [0]), (5, rests))),
                                (less, ((1, [0]), (5, rests)))]:
            first = error_of(call, *arguments)
            self.assertIsNot(first[1][1], rests)
            first[1][1].append(0)
            self.assertEqual(rests, [7, 3])
            self.assertEqual(error_of(call, *arguments)[1][1], [7, 3])

    def test_lists_that_are_changed_behind_a_call(self):
        rests = [0, 2]
        told = lot(5, rests)
        rests.append(1)
        self.assertEqual(told, (5, [0, 2]))
        self.assertEqual(lot(5, [0, 2]), (5, [0, 2]))
        error = error_of(lot, 0, rests)
        rests.clear()
        self.assertEqual(error, (InvalidLot, (0, [0, 2, 1])))

    def test_arguments_by_name(self):
        self.assertEqual(lot(rests=[1, 3], every=4), (2, [1]))
        self.assertEqual(met(other=(3, [1]), one=(2, [0])), (6, [4]))
        self.assertEqual(joined(other=(4, [1]), one=(2, [0])), (4, [0, 1, 2]))
        self.assertEqual(less(other=(3, [2]), one=(1, [0])), (3, [0, 1]))
        self.assertIs(has(day=4, one=(6, [4])), True)
        self.assertEqual(next_day(day=11, one=(6, [4])), 16)
        self.assertEqual(number(high=10, low=5, one=(6, [4])), 1)
        self.assertEqual(widest(one=(6, [0, 4])), 3)


if __name__ == "__main__":
    unittest.main()
