"""Tests of marketdays.texts and marketdays.readings: promises [2], [3], [4], [5], [6] and their sections."""

import re
import unittest
from random import Random

from marketdays.diaries import Diary
from marketdays.errors import Unreadable
from marketdays.lots import lot
from marketdays.readings import read_diary, read_lot
from marketdays.texts import show_diary, show_lot
from tests.raising import error_of
from tests.trying import FAR, GREAT, SMALL, least_lot, some_diaries

INTEGER = "(0|[1-9][0-9]{0,30})"
TOWN = f"([a-z]{{1,8}}) {INTEGER}[.][.]{INTEGER}"
NOTE = f"(?:(market|none) ([a-z]{{1,8}})|(one|same) ([a-z]{{1,8}}) ([a-z]{{1,8}})) {INTEGER}"
DIARY = re.compile(f"(?:{TOWN}(?:, {TOWN})*(?:; {NOTE})*)?")
LOT = re.compile(f"(?:-|({INTEGER}(?:,{INTEGER})*)) by {INTEGER}")
MOST = 10 ** 31 - 1
# All signs from the space to the tilde that a text may have, without the percent sign.
SIGNS = [chr(number) for number in range(32, 127) if number != 37]
TWENTY = Diary([(letter * (1 + place % 8), 1 + place, 10 ** 6) for place, letter in enumerate("abcdefghijklmnopqrst")],
               [(("one", "same")[place % 2], "a", "bb", FAR - place) for place in range(60)])


def towns_and_notes(text):
    """Return the towns and notes of a text that has the form of a diary's."""
    if not text:
        return [], []
    first, *notes = text.split("; ")
    towns = [re.fullmatch(TOWN, part).groups() for part in first.split(", ")]
    return ([(name, int(low), int(high)) for name, low, high in towns],
            [tuple(note.split(" ")[:-1]) + (int(note.split(" ")[-1]),) for note in notes])


def is_diary(text):
    """Return True if some diary has a text, word for word as the document says."""
    if not DIARY.fullmatch(text):
        return False
    towns, notes = towns_and_notes(text)
    names = [town[0] for town in towns]
    return (len(set(names)) == len(names) and all(1 <= low <= high for _, low, high in towns)
            and all(set(note[1:-1]) <= set(names) and len(set(note)) == len(note) for note in notes))


def is_lot(text):
    """Return True if some told lot has a text, word for word as the document says."""
    if not LOT.fullmatch(text):
        return False
    shown, every = text.split(" by ")
    rests = [] if shown == "-" else [int(rest) for rest in shown.split(",")]
    if int(every) < 1 or rests != sorted(set(rests)) or rests[-1:] > [int(every) - 1]:
        return False
    return least_lot(rests, int(every)) == (int(every), rests)


def changed(random, text):
    """Return texts that are a bit unlike a text."""
    made = [text + sign for sign in " ;,.0-a"] + [sign + text for sign in " ;,.0-a"] + [text + text, text[1:], text[:-1]]
    for _ in range(40):
        at = random.randint(0, len(text))
        sign = random.choice(SIGNS + list(" ;,.0123456789 abmn") * 4)
        made += [text[:at] + sign + text[at:], text[:at] + sign + text[at + 1:], text[:at] + text[at + 1:]]
    for word, other in [("; ", ";"), ("; ", ", "), (", ", "; "), (", ", ","), ("..", "."), ("..", "..."), (" ", "  "),
                        ("market", "none"), ("none", "one"), ("one", "same"), ("ulm", "wien"), ("ulm", "Ulm"), ("by", "BY"),
                        (" by ", "by"), (" by ", " "), (",", ", "), (",", ",,"), ("; ", "; ; "), (" ", " 0"), (",", ",0"),
                        ("..", "..0"), ("..", ".. "), (" ", " -"), (" ", " +"), ("1", "01"), ("0", "00"), ("3", "1_0")]:
        made += [text.replace(word, other), text.replace(word, other, 1), text[::-1].replace(word, other, 1)[::-1]]
    return made


class ExamplesTest(unittest.TestCase):

    def test_the_examples_of_the_section(self):
        diary = Diary([("ulm", 2, 6), ("wien", 7, 7)], [("market", "ulm", 3), ("one", "ulm", "wien", 12)])
        self.assertEqual(
            [show_diary(diary), read_diary(show_diary(diary)) == diary, show_diary(Diary([], [])), show_lot((6, [0, 4])), read_lot("- by 1")],
            ['ulm 2..6, wien 7..7; market ulm 3; one ulm wien 12', True, '', '0,4 by 6', (1, [])])


class DiaryTest(unittest.TestCase):

    def unreadable(self, text):
        self.assertEqual(error_of(read_diary, text), (Unreadable, text))

    def test_shown_and_read_again(self):
        for towns, notes in SMALL + GREAT + some_diaries(81, 100, 8):
            diary = Diary(towns, notes)
            text = show_diary(diary)
            parts = ["%s %d..%d" % town for town in towns]
            self.assertEqual(text, "".join([", ".join(parts)] + ["; " + " ".join(map(str, note)) for note in notes]))
            read = read_diary(text)
            self.assertTrue(read == diary)
            self.assertEqual([read.towns, read.notes, show_diary(read)], [towns, notes, text])
            self.assertIsInstance(read, Diary)

    def test_texts_that_are_changed(self):
        random = Random(82)
        seen = []
        for towns, notes in SMALL + some_diaries(83, 60, 8):
            for text in changed(random, show_diary(Diary(towns, notes))):
                seen.append(is_diary(text))
                if not is_diary(text):
                    self.unreadable(text)
                    continue
                diary = read_diary(text)
                self.assertEqual([show_diary(diary), (diary.towns, diary.notes)], [text, towns_and_notes(text)])
        self.assertGreater(min(seen.count(True), seen.count(False)), 1000)

    def test_without_towns_and_without_notes(self):
        self.assertTrue(read_diary("") == Diary([], []))
        self.assertTrue(read_diary("ulm 1..1") == Diary([("ulm", 1, 1)], []))
        for text in (" ", ";", "; ", ", ", "; market ulm 3", "; none", "ulm 1..1; ", "ulm 1..1, ", ", ulm 1..1", "-", "0", "3"):
            self.unreadable(text)

    def test_names_that_are_none(self):
        for name in ("", "Ulm", "ULM", "ulm1", "abcdefghi", "u-lm", "u.lm", "~", "ulm,", "ulm;", "0"):
            self.unreadable(f"{name} 1..2")
            self.unreadable(f"bonn 1..2, {name} 1..2; market bonn 3")
            self.unreadable(f"ulm 1..2; market {name} 3")
            self.unreadable(f"ulm 1..2; one ulm {name} 3")
        self.assertEqual(read_diary("abcdefgh 1..2; none abcdefgh 0").names(), ["abcdefgh"])

    def test_names_that_stand_twice_or_are_no_towns(self):
        for text in ("ulm 1..2, ulm 1..2", "ulm 1..2, wien 1..1, ulm 3..4", "ulm 1..2; market wien 3", "ulm 1..2; one ulm ulm 3",
                     "ulm 1..2, wien 1..1; one ulm bonn 3", "ulm 1..2, wien 1..1; same bonn ulm 3",
                     "ulm 1..2, wien 1..1; same wien wien 3"):
            self.unreadable(text)

    def test_bounds_that_are_wrong(self):
        for bounds in ("0..1", "0..0", "3..2", "2..", "..2", "..", "2", "2.3", "2...3", "2..3..4", "-1..2", "1..-2", "+1..2",
                       "1..+2", "2 ..3", "2.. 3", "01..2", "1..02", "1..2.", "a..b", "1..b", "1_0..2_0", "1..1_0", "00..1", "1,2"):
            self.unreadable(f"ulm {bounds}")
            self.unreadable(f"ulm {bounds}; market ulm 3")
        self.assertEqual(read_diary("ulm 1..1, wien 12..1000000").towns, [("ulm", 1, 1), ("wien", 12, 10 ** 6)])

    def test_integers_of_31_and_32_digits(self):
        for day in (FAR, MOST, 10 ** 30 - 1):
            self.assertEqual(read_diary(f"ulm 1..2; market ulm {day}").notes, [("market", "ulm", day)])
            self.assertEqual(read_diary(f"ulm {day}..{day}").towns, [("ulm", day, day)])
        for day in (MOST + 1, 10 ** 32, 10 ** 999):
            self.unreadable(f"ulm 1..2; market ulm {day}")
            self.unreadable(f"ulm 1..{day}")
            self.unreadable(f"ulm {day}..{day}")
            # It may be a diary's, but its text is not readable.
            self.assertEqual(show_diary(Diary([("ulm", 1, 2)], [("none", "ulm", day)])), f"ulm 1..2; none ulm {day}")
        self.unreadable("ulm 1..2; market ulm " + "0" * 31)
        self.unreadable("ulm 1..2; market ulm " + "0" * 30 + "3")

    def test_days_that_are_none(self):
        for day in ("", "-1", "+1", "00", "01", "007", "a", "3a", "3.", "3..4", "0x3", "1_0", "1,0", "3;", "3 ", " 3", "3 4"):
            self.unreadable(f"ulm 1..2; market ulm {day}")
        self.assertEqual(read_diary("ulm 1..2; market ulm 0; none ulm 10").notes, [("market", "ulm", 0), ("none", "ulm", 10)])

    def test_digits_of_other_scripts(self):
        for digit in ("\u0663", "\u00b2", "\uff13"):
            self.unreadable(f"ulm 1..2; market ulm {digit}")
            self.unreadable(f"ulm 1..{digit}")
            self.assertEqual(error_of(read_lot, f"{digit} by 7"), (Unreadable, f"{digit} by 7"))

    def test_notes_that_are_none(self):
        for note in ("", "3", "market", "market 3", "market ulm", "one ulm 3", "market ulm wien 3", "one ulm wien bonn 3",
                     "both ulm wien 3", "Market ulm 3", "markets ulm 3", "market, ulm 3", "ulm 3", "ulm market 3", "none 3 ulm",
                     "same ulm wien", "one ulm, wien 3", "; none ulm 3", "none ulm 3;", "ulm 1..2"):
            self.unreadable(f"ulm 1..2, wien 1..1, bonn 1..1; {note}")
            self.unreadable(f"ulm 1..2, wien 1..1, bonn 1..1; market ulm 3; {note}; none wien 3")

    def test_blanks_and_separators(self):
        right = "ulm 1..2, wien 3..4; market ulm 3; one wien ulm 0"
        self.assertTrue(read_diary(right) == Diary([("ulm", 1, 2), ("wien", 3, 4)], [("market", "ulm", 3), ("one", "wien", "ulm", 0)]))
        for at, sign in enumerate(right):
            if sign in " ,;.":
                for other in ("", sign + sign, " ", ",", ";", ".", "-"):
                    if other != sign:
                        self.unreadable(right[:at] + other + right[at + 1:])
        for text in (" " + right, right + " ", right + "; ", right + ";", "\t" + right, right + "\n", right.upper()):
            self.unreadable(text)

    def test_names_that_are_words_of_notes(self):
        towns = [("market", 1, 2), ("none", 1, 2), ("one", 1, 2), ("same", 1, 2), ("by", 1, 2)]
        notes = [("market", "market", 1), ("none", "none", 2), ("one", "one", "same", 3), ("same", "same", "by", 4)]
        self.assertTrue(read_diary(show_diary(Diary(towns, notes))) == Diary(towns, notes))

    def test_twenty_towns_and_sixty_notes(self):
        text = show_diary(TWENTY)
        self.assertLess(len(text), 3000)
        self.assertTrue(read_diary(text) == TWENTY)

    def test_diaries_that_quarrel(self):
        text = "ulm 2..2; market ulm 0; none ulm 4"
        self.assertEqual(show_diary(read_diary(text)), text)


class LotTest(unittest.TestCase):

    def unreadable(self, text):
        self.assertEqual(error_of(read_lot, text), (Unreadable, text))

    def test_shown_and_read_again(self):
        random = Random(84)
        lots = [(1, []), (1, [0]), (6, [0, 4]), (5040, list(range(0, 5040, 7))), (5040, [5039]), (5039, [0, 1, 5038])]
        lots += [lot(every, random.sample(range(every), random.randint(0, every))) for every in range(1, 60)]
        for one in lots:
            one = lot(*one)
            text = show_lot(one)
            self.assertEqual(text, (",".join(map(str, one[1])) or "-") + " by " + str(one[0]))
            if len(text) <= 3000:
                self.assertEqual(read_lot(text), one)
                self.assertIsInstance(read_lot(text), tuple)

    def test_lots_that_are_not_the_told_ones_are_shown_as_they_are(self):
        self.assertEqual([show_lot(one) for one in [(4, [1, 3]), (3, [0, 1, 2]), (7, []), (10 ** 30, [0, 10 ** 29])]],
                         ["1,3 by 4", "0,1,2 by 3", "- by 7", "0," + "1" + "0" * 29 + " by 1" + "0" * 30])

    def test_lots_that_are_not_the_told_ones_are_unreadable(self):
        for text in ("1,3 by 4", "0,1,2 by 3", "- by 7", "- by 2", "0,1 by 2", "0,2 by 4", "0,3 by 6", "0,2,4 by 6", "- by 5040",
                     ",".join(map(str, range(0, 700, 7))) + " by 700"):
            self.unreadable(text)
        self.assertEqual([read_lot(text) for text in ("1 by 2", "0 by 1", "- by 1", "0 by 2", "0,1 by 3", "0,1,3 by 6")],
                         [(2, [1]), (1, [0]), (1, []), (2, [0]), (3, [0, 1]), (6, [0, 1, 3])])

    def test_texts_that_are_changed(self):
        random = Random(85)
        seen = []
        for every in list(range(1, 40)) * 2:
            one = lot(every, random.sample(range(every), random.randint(0, every)))
            for text in changed(random, show_lot(one)):
                if LOT.fullmatch(text) and int(text.split(" by ")[1]) > 5040:
                    continue
                seen.append(is_lot(text))
                if is_lot(text):
                    self.assertEqual(show_lot(read_lot(text)), text)
                else:
                    self.unreadable(text)
        self.assertGreater(min(seen.count(True), seen.count(False)), 500)

    def test_what_is_unreadable(self):
        for text in ("", " ", "-", "by", " by ", "- by ", " by 1", "0 by", "by 1", "0", "0 1", "0by1", "0 by 0", "- by 0", "1 by 1",
                     "2 by 2", "5 by 3", "1,0 by 3", "0,0 by 3", "0,,1 by 3", ",0 by 3", "0, by 3", "0, 1 by 3", "0 ,1 by 3",
                     "-1 by 3", "0 by -3", "0 by 3 by 3", "0  by 3", "0 by  3", " 0 by 3", "0 by 3 ", "-,0 by 3", "--by 1",
                     "-- by 1", "00 by 3", "01 by 3", "0 by 03", "0 BY 3", "+0 by 3", "0 by +3", "0;1 by 3", "a by 3", "0 by a",
                     "0_1 by 30", "0 by 3_0", "0.. by 3", "0 by 3, ", "by by by"):
            self.unreadable(text)

    def test_integers_of_31_and_32_digits(self):
        for every in ("1" + "0" * 31, "9" * 32, "1" * 3000 + "0"):
            self.unreadable(f"0 by {every}")
            self.unreadable(f"- by {every}")
            self.unreadable(f"{every} by 7")
            self.unreadable(f"0,{every} by {every}")
        for rest in ("9" * 31, "9" * 32):
            self.unreadable(f"{rest} by 5040")
        self.assertEqual(read_lot("7 by " + "9" * 31), (MOST, [7]))

    def test_returned_lists_are_new(self):
        told = read_lot("0,4 by 6")
        told[1].append(5)
        self.assertEqual([read_lot("0,4 by 6"), read_lot("- by 1")], [(6, [0, 4]), (1, [])])
        none = read_lot("- by 1")
        none[1].append(0)
        self.assertEqual(read_lot("- by 1"), (1, []))

    def test_lists_that_are_handed_over_are_not_changed(self):
        rests = [0, 4]
        self.assertEqual([show_lot((6, rests)), show_lot((6, rests))], ["0,4 by 6", "0,4 by 6"])
        self.assertEqual(rests, [0, 4])

    def test_arguments_by_name(self):
        self.assertEqual([show_lot(one=(6, [0, 4])), show_diary(diary=Diary([], [])), read_lot(text="0 by 1")],
                         ["0,4 by 6", "", (1, [0])])
        self.assertTrue(read_diary(text="") == Diary([], []))
        self.assertEqual([error_of(read_lot, text="x"), error_of(read_diary, text="x")], 2 * [(Unreadable, "x")])


if __name__ == "__main__":
    unittest.main()
