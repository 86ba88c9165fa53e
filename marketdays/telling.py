"""Telling: how visits on some days part a town's choices, until what is to be told is told."""

from marketdays.bits import bits_of, picked
from marketdays.turns import has_market


class Telling:
    """What visits on days of a list tell of some choices; sets of these are numbers with a bit for each."""

    def __init__(self, found, days, goal):
        answers = [answer_of(choice, goal) for choice in found]
        self.found = found
        self.answers = answers
        self.whole = (1 << len(found)) - 1
        # Days that part the choices in the same way tell the same: the last one stands for all.
        self.days = {bits_of([has_market(choice, day) for choice in found]): day for day in days}
        self.like = [bits_of([other == answer for other in answers]) for answer in answers]
        self.needs = {}

    def chosen(self, bits):
        """Return the ascending list of the choices of a set."""
        return picked(self.found, bits)

    def answer(self, bits):
        """Return the answer of the least choice of a set."""
        return self.answers[least_place(bits)]

    def is_told(self, bits):
        """Return True if all choices of a set have the same answer, otherwise False."""
        return (bits & ~self.like[least_place(bits)]) == 0

    def parted(self, bits):
        """Return tuples (day, choices with market, choices without) of the days that part a set."""
        rows = [(day, bits & shown, bits & ~shown) for shown, day in self.days.items()]
        return [row for row in rows if row[1] and row[2]]

    def best_part(self, bits):
        """Return the first tuple of `parted` whose parts need the fewest visits."""
        rows = self.parted(bits)
        least = min([self.need(self.harder(held, free)) for _, held, free in rows])
        return [row for row in rows if self.need(self.harder(row[1], row[2])) == least][0]

    def blurred(self):
        """Return a set of choices with unlike answers that no day parts, 0 if there is none."""
        parts = [self.whole]
        for shown in self.days:
            parts = [part for bits in parts for part in (bits & shown, bits & ~shown) if part]
        return max([0] + [bits for bits in parts if not self.is_told(bits)])

    def need(self, bits):
        """Return the least number of visits that surely tell the answer of a set, where nothing is blurred."""
        if bits not in self.needs:
            self.needs[bits] = self.counted(bits)
        return self.needs[bits]

    def counted(self, bits):
        """Return what `need` returns, counted by the needs of the parts of a set."""
        if self.is_told(bits):
            return 0
        _, held, free = self.best_part(bits)
        return 1 + self.need(self.harder(held, free))

    def harder(self, one, other):
        """Return the one of two sets that needs more visits."""
        return one if self.need(one) >= self.need(other) else other


def answer_of(choice, goal):
    """Return what is to be told of a choice by a goal."""
    if goal == "choice":
        return choice
    if goal == "turn":
        return choice[0]
    return has_market(choice, goal)


def least_place(bits):
    """Return the place of the least bit that is set."""
    return (bits & -bits).bit_length() - 1
