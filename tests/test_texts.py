"""Promise [17]: texts of rows, steps and phases, written and read back."""

import copy
import re
import unittest
from itertools import product
from math import gcd

from lastcopied.errors import CopyError, InvalidPhases, InvalidRow, InvalidStretch, InvalidText
from lastcopied.texts import (
    read_phases, read_row, read_steps, write_phases, write_row, write_steps,
)
from tests.wrong_values import LONG, NO_ROWS, OBJECTS, check_errors, check_raises

ROW = ("new", (20, 12, 30))
PAIR = ("old", (2, 3))
FIVE = ("old", (1, 2, 3, 4, 5))


def all_texts(signs, most):
    """All strings of up to so many of these signs."""
    for size in range(most + 1):
        for picked in product(signs, repeat=size):
            yield "".join(picked)


def whole(word):
    """The integer from 0 on of a word, None if it tells none."""
    return int(word) if re.fullmatch("0|[1-9][0-9]{0,8}", word) else None


def phase(word):
    """The fraction of a word, None if it tells none."""
    told = re.fullmatch("(-?)(0|[1-9][0-9]{0,8})(/(0|[1-9][0-9]{0,8}))?", word)
    if told is None or told[1] and told[2] == "0":
        return None
    top = int(told[1] + told[2])
    if told[3] is None:
        return (top, 1)
    bottom = int(told[4])
    return (top, bottom) if bottom > 1 and gcd(top, bottom) == 1 else None


def judged(words, tell, least, most):
    """The list of what the words tell, or the place of the first one that cannot stand."""
    for place, word in enumerate(words):
        if place == most or tell(word) is None:
            return place
    return [tell(word) for word in words] if len(words) >= least else len(words)


def given(read, *arguments):
    """What a reader returns, or the place that it raises."""
    try:
        return read(*arguments)
    except InvalidText as error:
        return error.place


class Rows(unittest.TestCase):

    def test_told_by_hand(self):
        self.assertEqual(write_row(ROW), "new 20 12 30")
        self.assertEqual(read_row("new 20 12 30"), ROW)
        self.assertEqual(write_row(("old", (1, 60))), "old 1 60")
        self.assertEqual(read_row("old 1 60"), ("old", (1, 60)))
        self.assertEqual(write_row(FIVE), "old 1 2 3 4 5")
        self.assertEqual(read_row("old 1 2 3 4 5"), FIVE)

    def test_written_and_read_back(self):
        for size, tie in product(range(2, 6), ("new", "old")):
            for first in (1, 9, 10, 56):
                row = (tie, tuple(range(first, first + size)))
                read = read_row(write_row(row))
                self.assertEqual(read, row)
                self.assertIs(type(read), tuple)
                self.assertIs(type(read[1]), tuple)

    def test_what_cannot_stand(self):
        for text, place in (
            ("", 0), (" ", 0), ("\n", 0), ("2 3", 0), ("New 2 3", 0), ("newer 2 3", 0), ("ne", 0),
            (" new 2 3", 0), ("new\n2 3", 0), ("new,2,3", 0), ("newold 2 3", 0), ("-", 0),
            ("new", 1), ("old", 1), ("new ", 1), ("new  2 3", 1), ("new old 2 3", 1), ("new a 3", 1),
            ("new 0 3", 1), ("new 61 3", 1), ("new -2 3", 1), ("new -0 3", 1), ("new 02 3", 1),
            ("new 00 3", 1), ("new +2 3", 1), ("new 2.0 3", 1), ("new 2/1 3", 1), ("new 1_0 3", 1),
            ("new 2,3", 1), ("new 2\n3 4", 1), ("new 2\t3 4", 1), ("new 1000000000 3", 1),
            ("new 10000000000000000000000000000000 3", 1), ("new 0x2 3", 1), ("new None 3", 1),
            ("new 2", 2), ("new 2 ", 2), ("new 2  3", 2), ("new 2 x", 2), ("new 2 3\n", 2),
            ("new 2 61", 2), ("new 2 0", 2), ("old 2 -3", 2), ("old 2 03", 2), ("old 2 new", 2),
            ("new 2 3 ", 3), ("new 2 3 \n", 3), ("new 2 3  4", 3), ("new 2 3 0", 3),
            ("new 2 3 4 5 0", 5), ("new 2 3 4 5 61", 5), ("new 2 3 4 5 ", 5),
            ("new 2 3 4 5 6 ", 6), ("new 2 3 4 5 6 7", 6), ("new 2 3 4 5 6 x", 6),
            ("new 2 3 4 5 6 7 8 9", 6), ("new 2 3 4 5 0 7", 5), ("new 2 0 0 0", 2),
            ("new 2 3 4 5 6  ", 6),
        ):
            self.assertEqual(given(read_row, text), place, text)

    def test_all_short_texts(self):
        for text in all_texts(("new", "old", " ", "0", "6", "-"), 6):
            words = text.split(" ")
            if words[0] not in ("new", "old"):
                wanted = 0
            else:
                periods = judged(words[1:], lambda word: whole(word) if word in PERIODS else None, 2, 5)
                wanted = periods + 1 if isinstance(periods, int) else (words[0], tuple(periods))
            self.assertEqual(given(read_row, text), wanted, text)

    def test_errors_and_names(self):
        check_errors(self, write_row, {"row": ROW})
        self.assertEqual(write_row(row=PAIR), "old 2 3")
        self.assertEqual(read_row(text="old 2 3"), PAIR)


PERIODS = [str(period) for period in range(1, 61)]


class Steps(unittest.TestCase):

    def test_told_by_hand(self):
        self.assertEqual(write_steps([]), "")
        self.assertEqual(read_steps(""), [])
        self.assertEqual(write_steps([0]), "0")
        self.assertEqual(read_steps("0"), [0])
        self.assertEqual(write_steps([1, 2, 0, 30]), "1 2 0 30")
        self.assertEqual(read_steps("1 2 0 30"), [1, 2, 0, 30])
        self.assertEqual(write_steps([LONG, 10 ** 9]), f"{LONG} 1000000000")
        self.assertEqual(read_steps("999999999 123456789"), [999999999, 123456789])

    def test_written_and_read_back(self):
        for stretch in ([7], [0, 0], [999999999], [2, 0] * 150, list(range(3000))):
            text = write_steps(stretch)
            self.assertEqual(text.split(), list(map(str, stretch)))
            self.assertEqual(read_steps(text), stretch)

    def test_what_cannot_stand(self):
        for text, place in (
            (" ", 0), ("  ", 0), ("\n", 0), ("-", 0), ("-1", 0), ("-0", 0), ("00", 0), ("01 2", 0),
            ("x", 0), ("+1", 0), ("1.0", 0), ("1/2", 0), ("1_000", 0), ("1\n", 0), ("\n1", 0),
            ("1\n2", 0), ("1000000000", 0), ("0000000001", 0), (" 1", 0), ("1,2", 0), ("new", 0),
            ("1 ", 1), ("1  2", 1), ("1 -2", 1), ("1 -0", 1), ("1 02", 1), ("1 2\n", 1),
            ("1 1000000000", 1), ("1 2 ", 2), ("1 2 x 4 y", 2), ("0 0 0 00", 3), ("0 1 2 3 \n", 4),
        ):
            self.assertEqual(given(read_steps, text), place, text)

    def test_all_short_texts(self):
        for text in all_texts("01- \nx", 6):
            words = [] if text == "" else text.split(" ")
            self.assertEqual(given(read_steps, text), judged(words, whole, 0, 99), text)

    def test_errors_and_names(self):
        check_errors(self, write_steps, {"stretch": [1]})
        self.assertEqual(write_steps(stretch=[1, 2]), "1 2")
        self.assertEqual(read_steps(text="1 2"), [1, 2])

    def test_what_is_passed_stays_and_what_is_returned_is_new(self):
        stretch = [1, 2, 0]
        write_steps(stretch)
        self.assertEqual(stretch, [1, 2, 0])
        for text in ("", "1 2"):
            self.assertIsNot(read_steps(text), read_steps(text))
            read_steps(text).append(0)
            self.assertEqual(read_steps(text), [1, 2] if text else [])


class Phases(unittest.TestCase):

    def test_told_by_hand(self):
        phases = [(-3, 1), (-1, 2), (0, 1)]
        self.assertEqual(write_phases(ROW, phases), "-3 -1/2 0")
        self.assertEqual(read_phases(ROW, "-3 -1/2 0"), phases)
        phases = [(999999999, 1), (-999999999, 999999998)]
        self.assertEqual(write_phases(PAIR, phases), "999999999 -999999999/999999998")
        self.assertEqual(read_phases(PAIR, "999999999 -999999999/999999998"), phases)
        self.assertEqual(write_phases(PAIR, [(LONG, 1), (-1, LONG)]), f"{LONG} -1/{LONG}")
        phases = [(7, 60), (1, 1), (-1, 1), (10, 7), (100, 1)]
        self.assertEqual(write_phases(FIVE, phases), "7/60 1 -1 10/7 100")
        self.assertEqual(read_phases(FIVE, "7/60 1 -1 10/7 100"), phases)

    def test_written_and_read_back(self):
        for top, bottom in product(range(-13, 14), range(1, 14)):
            if gcd(top, bottom) == 1:
                phases = [(top, bottom), (-top, bottom)]
                read = read_phases(PAIR, write_phases(PAIR, phases))
                self.assertEqual(read, phases)
                self.assertEqual([type(part) for part in read], [tuple, tuple])

    def test_what_cannot_stand(self):
        for text, place in (
            ("", 0), (" ", 0), ("  ", 0), ("x 0", 0), ("- 0", 0), ("-0 0", 0), ("00 0", 0),
            ("01 0", 0), ("-01 0", 0), ("--1 0", 0), ("+1 0", 0), ("1- 0", 0), ("1.5 0", 0),
            ("1000000000 0", 0), ("-1000000000 0", 0), ("1000000000/3 0", 0), ("1/1000000000 0", 0),
            ("2/4 0", 0), ("-2/4 0", 0), ("6/3 0", 0), ("3/1 0", 0), ("-3/1 0", 0), ("0/1 0", 0),
            ("0/2 0", 0), ("-0/1 0", 0), ("-0/3 0", 0), ("1/0 0", 0), ("0/0 0", 0), ("1/-2 0", 0),
            ("1/+2 0", 0), ("1/02 0", 0), ("01/2 0", 0), ("1/ 0", 0), ("/2 0", 0), ("/ 0", 0),
            ("1/2/3 0", 0), ("1//2 0", 0), ("1/2/ 0", 0), ("(1,2) 0", 0), ("1/2\n 0", 0),
            ("1/2\n0", 0), (" 1/2 0", 0), ("new 2 3", 0), ("1_1 0", 0),
            ("1", 1), ("1/2", 1), ("-3", 1), ("1 ", 1), ("1  2", 1), ("1 x", 1), ("1 2/2", 1),
            ("1 -0", 1), ("1 0\n", 1), ("1 3/1 5", 1), ("1 1000000000", 1),
            ("1 2 ", 2), ("1 2 3", 2), ("1 2 x", 2), ("1 2  ", 2), ("1 2 \n", 2), ("1 2 3 4", 2),
        ):
            self.assertEqual(given(read_phases, PAIR, text), place, text)
        for text, place in (("1 2 3 4", 4), ("1 2 3 4 5 6", 5), ("1 2 3 4 5 ", 5), ("1 2 3 4 ", 4),
                            ("1 2 3 4 2/2 6", 4), ("0", 1), ("", 0)):
            self.assertEqual(given(read_phases, FIVE, text), place, text)

    def test_all_short_texts(self):
        for text in all_texts("012-/ ", 6):
            self.assertEqual(given(read_phases, PAIR, text), judged(text.split(" "), phase, 2, 2), text)

    def test_errors_and_names(self):
        check_errors(self, write_phases, {"row": PAIR, "phases": [(0, 1), (1, 2)]})
        for row in NO_ROWS:
            for text in ("0 1/2", "x"):
                check_raises(self, InvalidRow, read_phases, {"row": row, "text": text})
        self.assertEqual(write_phases(phases=[(0, 1), (1, 2)], row=PAIR), "0 1/2")
        self.assertEqual(read_phases(text="0 1/2", row=PAIR), [(0, 1), (1, 2)])

    def test_what_is_passed_stays_and_what_is_returned_is_new(self):
        phases = [(1, 2), (-3, 1)]
        told = copy.deepcopy(phases)
        write_phases(PAIR, phases)
        self.assertEqual(phases, told)
        self.assertIsNot(read_phases(PAIR, "0 0"), read_phases(PAIR, "0 0"))


class TheErrors(unittest.TestCase):

    def test_they_are_of_their_own_class(self):
        for call, wanted in (
            (lambda: read_row("x"), InvalidText), (lambda: read_steps("x"), InvalidText),
            (lambda: read_phases(PAIR, "x"), InvalidText), (lambda: read_phases(0, "x"), InvalidRow),
            (lambda: write_phases(0, 0), InvalidRow), (lambda: write_phases(PAIR, 0), InvalidPhases),
            (lambda: write_steps(0), InvalidStretch), (lambda: write_row(0), InvalidRow),
        ):
            with self.assertRaises(CopyError) as caught:
                call()
            self.assertIs(type(caught.exception), wanted)

    def test_values_that_are_no_strings(self):
        # The words do not tell of them; no word of them can stand.
        for value in [None, 3, True, (), ["new 2 3"], [], PAIR, *OBJECTS]:
            self.assertEqual(given(read_row, value), 0)
            self.assertEqual(given(read_steps, value), 0)
            self.assertEqual(given(read_phases, PAIR, value), 0)
