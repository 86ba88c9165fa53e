"""Turns: the choices of towns, and which notes they keep."""

from marketdays.bits import bits_of

# A note is kept if just so many of its towns have market on its day.
KEPT_BY = {"market": (1,), "none": (0,), "one": (1,), "same": (0, 2)}


def choices_of(town):
    """Return the ascending list of the choices of a town."""
    return [(turn, first) for turn in range(town[1], town[2] + 1) for first in range(turn)]


def is_choice(town, choice):
    """Return True if a town has a choice, otherwise False."""
    turn, first = choice
    return town[1] <= turn <= town[2] and 0 <= first < turn


def has_market(choice, day):
    """Return True if a town has market on a day by a choice, otherwise False."""
    return day % choice[0] == choice[1]


def number_with(chosen, day):
    """Return how many of some choices have market on a day."""
    return len([choice for choice in chosen if has_market(choice, day)])


def is_kept(note, chosen):
    """Return True if a note is kept by choices of the towns that it asks of, otherwise False."""
    return number_with(chosen, note[-1]) in KEPT_BY[note[0]]


def keeping(note, own, ahead):
    """Return the bits of a town's choices that keep a note, if so many of its other towns have market on its day."""
    return bits_of([ahead + number_with([choice], note[-1]) in KEPT_BY[note[0]] for choice in own])


def wait_of(choice, day):
    """Return the number of days to wait for market by a choice, from a day on."""
    turn, first = choice
    return (first - day) % turn
