"""Readings: the diaries and the told lots of days that have a text."""

from marketdays.diaries import Diary
from marketdays.errors import MarketError, Unreadable
from marketdays.lots import lot
from marketdays.texts import show_lot

MOST_DIGITS = 31


def read_diary(text):
    """Return the diary with a text."""
    parts = text.split("; ")
    towns = [town_of(part) for part in parts[0].split(", ")] if parts[0] else []
    notes = [note_of(part) for part in parts[1:]]
    if None in towns or None in notes:
        raise Unreadable(text)
    try:
        return Diary(towns, notes)
    except MarketError:
        raise Unreadable(text) from None


def read_lot(text):
    """Return the told lot with a text."""
    shown, _, last = text.partition(" by ")
    every = integer_of(last)
    rests = [] if shown == "-" else [integer_of(word) for word in shown.split(",")]
    if every is None or every == 0 or None in rests:
        raise Unreadable(text)
    one = lot(every, rests)
    # Only the told lot has its text: not one with a greater `every`, or with rests in another order.
    if show_lot(one) != text:
        raise Unreadable(text)
    return one


def town_of(part):
    """Return the town of a part of a text, as far as it has the form of one, otherwise None."""
    name, _, bounds = part.partition(" ")
    low, _, high = bounds.partition("..")
    if integer_of(low) is None or integer_of(high) is None:
        return None
    return name, integer_of(low), integer_of(high)


def note_of(part):
    """Return the note of a part of a text, as far as it ends in a day, otherwise None."""
    words = part.split(" ")
    day = integer_of(words[-1])
    if day is None:
        return None
    return tuple(words[:-1] + [day])


def integer_of(word):
    """Return the integer that a word is, None if it is none, or one with too many digits."""
    if not word.isascii() or not word.isdecimal() or len(word) > MOST_DIGITS or (word[0] == "0" and word != "0"):
        return None
    return int(word)
