"""Promise [15]: lines, rows as objects."""

import copy
import unittest
from itertools import product

from lastcopied.alike import alike, least_rows, within
from lastcopied.errors import (
    CopyError, InvalidIndex, InvalidLine, InvalidPeriod, InvalidPhases, InvalidRow, InvalidText,
    InvalidTime, OtherEnds,
)
from lastcopied.lines import Line
from lastcopied.patterns import loses, patterns
from lastcopied.rows import number_at, pattern
from tests.cases import each_case, phases_of
from tests.plain_walk import SMALL_ROWS, least_round, walked_steps
from tests.wrong_values import (
    LONG, NEVER, NO_INTEGERS, NO_MIDDLES, NO_PERIODS, NO_PHASES, NO_ROWS, NO_TIMES, OBJECTS,
    check_errors,
)

TIES = ("new", "old")
ZEROS = [(0, 1), (0, 1)]
NO_LINES = [value for value in NO_INTEGERS if not isinstance(value, Line)]
# Rows that are alike now and then, with and without needless copiers.
SOME_ROWS = [
    (2, 3), (2, 4), (1, 2), (1, 1), (3, 3), (3, 2, 3), (3, 1, 3), (1, 2, 3), (1, 3), (4, 2, 4),
    (20, 12, 30), (20, 30), (2, 3, 2), (2, 3, 2, 3, 2), (3, 3, 3, 3), (4, 6, 3), (5, 1, 5, 1, 5),
]


def line_of(row):
    """The line of a row."""
    return Line(row[0], *row[1])


class Raises(unittest.TestCase):

    def raises(self, wanted, call, *arguments):
        """The call raises exactly this error."""
        with self.assertRaises(CopyError) as caught:
            call(*arguments)
        self.assertIs(type(caught.exception), wanted, arguments)


class TheConstructor(Raises):

    def test_lines(self):
        for row in (("new", (2, 3)), ("old", (1, 60)), ("new", (60, 59, 58, 57, 53)),
                    ("old", (1, 1, 1, 1, 1)), ("new", (7, 7, 7))):
            line = line_of(row)
            self.assertEqual((line.row, line.tie, line.periods), (row, *row))
            self.assertEqual((type(line.row), type(line.periods)), (tuple, tuple))
            self.assertEqual(len(line), len(row[1]))

    def test_what_is_no_row(self):
        for periods in ((), (2,), (1, 2, 3, 4, 5, 6), (0, 3), (2, 61), (2, -3), (2, LONG), (True, 2),
                        (2, "3"), (2, None), ((2, 3),), ([2, 3],), (2, (3,)), (LONG, 2)):
            self.raises(InvalidRow, Line, "new", *periods)
        for tie in ("", "New", "newer", "ne", "2"):
            self.raises(InvalidRow, Line, tie, 2, 3)
        for value in NEVER + [True, 0, LONG, ("new", (2, 3))]:
            if value != "new":
                self.raises(InvalidRow, Line, value, 2, 3)
            self.raises(InvalidRow, Line, "old", value, 3)
            self.raises(InvalidRow, Line, "new", 2, value, 3)
        self.raises(InvalidRow, lambda: Line(tie="new"))
        self.raises(InvalidRow, Line, "new", *[2] * 20000)


class Items(Raises):

    def test_by_index(self):
        line = Line("new", 20, 12, 30)
        self.assertEqual([line[0], line[1], line[2]], [20, 12, 30])
        for index in NO_INTEGERS + [-1, -3, 3, 4, LONG, -LONG]:
            self.raises(InvalidIndex, lambda: line[index])

    def test_setting_one(self):
        line = Line("old", 20, 12, 30)
        line[1] = 60
        self.assertEqual(line.row, ("old", (20, 60, 30)))
        line[0] = 1
        line[2] = 1
        self.assertEqual(line.row, ("old", (1, 60, 1)))
        self.assertEqual((line.tie, line.periods, len(line)), ("old", (1, 60, 1), 3))
        line[1] += 0
        line[2] += 7
        self.assertEqual(line.row, ("old", (1, 60, 8)))
        self.assertEqual(line.patterns(), patterns(("old", (1, 60, 8))))

    def test_errors_of_setting_one(self):
        line = Line("new", 2, 3)
        for index in NO_INTEGERS + [-1, 2, LONG, -LONG]:
            for period in (5, 0, None, line):
                self.raises(InvalidIndex, line.__setitem__, index, period)
        for period in NO_PERIODS:
            self.raises(InvalidPeriod, line.__setitem__, 1, period)
        self.assertEqual(line.row, ("new", (2, 3)))

    def test_in(self):
        line = Line("new", 1, 12, 30)
        for value in (1, 12, 30):
            self.assertIs(value in line, True)
        for value in NO_INTEGERS + [0, 2, -1, 60, 61, LONG, "12", "new", (1, 12, 30), line]:
            self.assertIs(value in line, False)
        self.assertIs(13 not in line, True)
        line[1] = 2
        self.assertEqual((2 in line, 12 in line), (True, False))

    def test_no_iteration(self):
        with self.assertRaises(TypeError):
            list(Line("new", 2, 3))
        with self.assertRaises(TypeError):
            for _ in Line("new", 2, 3):
                self.fail()


class TheCall(Raises):

    def test_it_says_what_number_at_says(self):
        for row, twelfths in each_case():
            line = line_of(row)
            phases = phases_of(twelfths, row[1])
            told = list(phases)
            for time in ((0, 1), (-7, 2), (5, 12), (100, 3)):
                self.assertEqual(line(phases, time), number_at(row, phases, time))
            self.assertEqual(phases, told)

    def test_told_by_hand_and_by_name(self):
        line = Line("new", 2, 3)
        self.assertEqual(line(ZEROS, (6, 1)), 3)
        self.assertEqual(line(time=(35, 6), phases=ZEROS), 1)
        self.assertEqual(Line("old", 2, 3)(ZEROS, (6, 1)), 2)

    def test_errors(self):
        check_errors(self, Line("new", 2, 3), {"phases": ZEROS, "time": (0, 1)})
        for phases, time in product(NO_PHASES[:3], NO_TIMES[:3]):
            self.raises(InvalidPhases, Line("new", 2, 3), phases, time)


class Sums(Raises):

    def test_of_lines(self):
        for tie in TIES:
            one = Line(tie, 2, 3)
            other = Line(tie, 3, 4, 5)
            self.assertEqual((one + other).row, (tie, (2, 3, 4, 5)))
            self.assertEqual((one.row, other.row), ((tie, (2, 3)), (tie, (3, 4, 5))))
            self.assertIs(type(one + other), Line)
            equal = Line(tie, 7, 7)
            self.assertEqual((equal + equal).row, (tie, (7, 7, 7)))
            self.assertEqual((equal + equal + equal + equal).row, (tie, (7,) * 5))

    def test_of_integers(self):
        line = Line("old", 2, 3)
        self.assertEqual((line + 1).row, ("old", (2, 3, 1)))
        self.assertEqual((line + 60).row, ("old", (2, 3, 60)))
        self.assertEqual((1 + line).row, ("old", (1, 2, 3)))
        self.assertEqual((60 + line).row, ("old", (60, 2, 3)))
        self.assertEqual((4 + line + 5).row, ("old", (4, 2, 3, 5)))
        self.assertEqual((4 + (line + 5) + 6).row, ("old", (4, 2, 3, 5, 6)))
        self.assertEqual(line.row, ("old", (2, 3)))

    def test_other_operands(self):
        line = Line("new", 3, 3)
        for value in NO_LINES:
            self.raises(InvalidLine, lambda: line + value)
            self.raises(InvalidLine, lambda: value + line)
        full = Line("new", 1, 2, 3, 4, 5)
        self.raises(InvalidLine, lambda: full + "6")
        self.raises(InvalidLine, lambda: True + full)

    def test_no_periods(self):
        full = Line("new", 1, 2, 3, 4, 5)
        for line, period in product((Line("new", 3, 3), full), (0, -1, 61, LONG, -LONG)):
            self.raises(InvalidPeriod, lambda: line + period)
            self.raises(InvalidPeriod, lambda: period + line)

    def test_other_ends(self):
        one = Line("new", 2, 3)
        for other in (Line("old", 3, 4), Line("new", 4, 3), Line("new", 2, 3), Line("old", 2, 3),
                      Line("old", 3, 1, 1, 1, 1), Line("new", 2, 1, 1, 1, 1)):
            self.raises(OtherEnds, lambda: one + other)
        full = Line("new", 1, 2, 3, 4, 5)
        self.raises(OtherEnds, lambda: full + full)
        self.raises(OtherEnds, lambda: full + Line("old", 5, 1))

    def test_too_many_copiers(self):
        full = Line("new", 1, 2, 3, 4, 1)
        for call in (lambda: full + 1, lambda: 1 + full, lambda: full + Line("new", 1, 5),
                     lambda: Line("new", 5, 1) + full, lambda: full + full,
                     lambda: Line("new", 1, 1, 1) + Line("new", 1, 2, 3, 4)):
            self.raises(InvalidRow, call)
        self.assertEqual((Line("new", 1, 1, 1) + Line("new", 1, 2, 3)).row, ("new", (1, 1, 1, 2, 3)))

    def test_of_no_lines_beside(self):
        line = Line("new", 2, 3)
        for other in OBJECTS[2:]:
            self.raises(InvalidLine, lambda: line + other)
            self.raises(InvalidLine, lambda: other + line)


class Growing(Raises):

    def test_the_object_itself_is_changed(self):
        line = Line("new", 2, 3)
        other = line
        line += Line("new", 3, 4)
        self.assertIs(line, other)
        self.assertEqual(other.row, ("new", (2, 3, 4)))
        line += 5
        self.assertIs(line, other)
        self.assertEqual(other.row, ("new", (2, 3, 4, 5)))
        self.assertEqual((len(other), other[3], 5 in other), (4, 5, True))

    def test_by_itself(self):
        line = Line("old", 7, 2, 7)
        line += line
        self.assertEqual(line.row, ("old", (7, 2, 7, 2, 7)))

    def test_an_integer_grows_to_a_new_line(self):
        line = Line("old", 2, 3)
        grown = 7
        grown += line
        self.assertEqual((grown.row, line.row), (("old", (7, 2, 3)), ("old", (2, 3))))

    def test_errors_change_nothing(self):
        line = Line("new", 1, 2, 3, 1)
        for wanted, values in (
            (InvalidLine, NO_LINES), (InvalidPeriod, [0, -1, 61, LONG, -LONG]),
            (OtherEnds, [Line("new", 2, 1), Line("old", 1, 1), Line("old", 1, 2, 3, 4, 5)]),
            (InvalidRow, [Line("new", 1, 2, 3), Line("new", 1, 2, 3, 4, 5), line]),
        ):
            for value in values:
                self.raises(wanted, line.__iadd__, value)
                self.assertEqual(line.row, ("new", (1, 2, 3, 1)))
        line += 60
        for value in (1, 60, Line("new", 60, 1), line):
            self.raises(OtherEnds if value is line else InvalidRow, line.__iadd__, value)
        self.assertEqual(line.row, ("new", (1, 2, 3, 1, 60)))

    def test_lines_that_were_made_before_stay(self):
        line = Line("new", 3, 2, 3)
        made = [line + 4, 4 + line, ~line, line.without(1), line + Line("new", 3, 1),
                Line("new", 1, 3) + line, *line.least_lines()]
        rows = [other.row for other in made]
        told = (line.row, line.periods, line.patterns())
        line[0] = 60
        line += 7
        line[3] = 8
        self.assertEqual([other.row for other in made], rows)
        self.assertEqual(told, (("new", (3, 2, 3)), (3, 2, 3), [(0, 2), (1,)]))
        for other in made:
            other[0] = 59
        self.assertEqual(line.row, ("new", (60, 2, 3, 8)))


class Turned(Raises):

    def test_the_periods_from_behind(self):
        for row in (("new", (2, 3)), ("old", (5, 4, 3, 2, 1)), ("new", (7, 7, 1))):
            line = line_of(row)
            self.assertEqual((~line).row, (row[0], row[1][::-1]))
            self.assertEqual((~~line).row, row)
            self.assertIsNot(~line, line)
            self.assertEqual(line.row, row)


class Comparisons(Raises):

    def test_they_say_what_alike_and_within_say(self):
        rows = [(TIES[at % 2], periods) for at, periods in enumerate(SOME_ROWS)]
        for one, other in product(rows, repeat=2):
            a, b = line_of(one), line_of(other)
            same = alike(one, other)
            self.assertIs(a == b, same)
            self.assertIs(a != b, not same)
            self.assertIs(a <= b, within(one, other))
            self.assertIs(a < b, within(one, other) and not same)

    def test_told_by_hand(self):
        self.assertIs(Line("old", 2, 4) == Line("new", 1, 2), True)
        self.assertIs(Line("old", 2, 4) != Line("new", 1, 2), False)
        self.assertIs(Line("new", 20, 12, 30) == Line("old", 20, 30), True)
        self.assertIs(Line("new", 1, 2, 3) == Line("new", 1, 3), False)
        self.assertIs(Line("new", 3, 3) < Line("new", 3, 2, 3), True)
        self.assertIs(Line("new", 3, 3) <= Line("new", 3, 2, 3), True)
        self.assertIs(Line("new", 3, 2, 3) <= Line("new", 3, 3), False)
        self.assertIs(Line("new", 3, 2, 3) < Line("old", 3, 2, 3), False)
        self.assertIs(Line("new", 3, 2, 3) <= Line("old", 3, 2, 3), True)
        self.assertIs(Line("new", 2, 3) <= Line("old", 1, 2), False)

    def test_a_line_and_itself(self):
        line = Line("new", 2, 3, 2)
        self.assertEqual((line == line, line != line, line <= line, line < line),
                         (True, False, True, False))

    def test_what_is_no_line(self):
        line = Line("new", 1, 1)
        for value in NO_LINES + [line.row, line.periods, 1, 0, LONG, line.patterns()]:
            self.assertIs(line == value, False)
            self.assertIs(value == line, False)
            self.assertIs(line != value, True)
            self.assertIs(value != line, True)
            self.raises(InvalidLine, lambda: line <= value)
            self.raises(InvalidLine, lambda: line < value)

    def test_they_follow_a_change(self):
        one, other = Line("new", 1, 2), Line("new", 1, 3)
        self.assertIs(one == other, False)
        one[1] = 3
        self.assertIs(one == other, True)


class Truth(Raises):

    def test_it_says_that_nothing_is_lost(self):
        for at, periods in enumerate(SMALL_ROWS):
            row = (TIES[at % 2], periods)
            self.assertIs(bool(line_of(row)), not loses(row))

    def test_told_by_hand(self):
        for periods, wanted in (((2, 3), False), ((3, 2), True), ((1, 1), True), ((60, 60), True),
                                ((3, 2, 3), False), ((3, 3, 3), True), ((60, 1), True)):
            self.assertIs(bool(Line("new", *periods)), wanted)
            self.assertIs(bool(Line("old", *periods)), wanted)

    def test_any_line(self):
        # Their patterns are beyond the limits of use.
        self.assertIs(bool(Line("old", 59, 58, 57, 56, 55)), True)
        self.assertIs(bool(Line("new", 60, 7, 11, 13, 17)), True)
        self.assertIs(bool(Line("new", 53, 60, 59, 58, 57)), False)


class Patterns(Raises):

    def test_they_are_those_of_the_row(self):
        for at, periods in enumerate(SMALL_ROWS):
            row = (TIES[at % 2], periods)
            self.assertEqual(line_of(row).patterns(), patterns(row))

    def test_the_list_is_new(self):
        line = Line("new", 3, 2, 3)
        line.patterns().clear()
        self.assertEqual(line.patterns(), [(0, 2), (1,)])


class LeavingOut(Raises):

    def test_without(self):
        line = Line("old", 1, 2, 3, 4, 5)
        self.assertEqual(line.without(1).row, ("old", (1, 3, 4, 5)))
        self.assertEqual(line.without(3).row, ("old", (1, 2, 3, 5)))
        self.assertEqual(line.without(index=2).row, ("old", (1, 2, 4, 5)))
        self.assertEqual(line.without(1).without(1).without(1).row, ("old", (1, 5)))
        self.assertEqual(line.row, ("old", (1, 2, 3, 4, 5)))

    def test_no_middle_copier(self):
        check_errors(self, Line("new", 3, 2, 3).without, {"index": 1})
        for index in NO_MIDDLES + [1]:
            self.raises(InvalidIndex, Line("new", 3, 3).without, index)
        for index in (0, 4, 5, -1, True):
            self.raises(InvalidIndex, Line("new", 1, 2, 3, 4, 5).without, index)

    def test_least_lines(self):
        for periods in SOME_ROWS + [(1, 2, 3, 3, 1), (2, 4, 8, 4, 2), (6, 3, 2, 6)]:
            for tie in TIES:
                lines = Line(tie, *periods).least_lines()
                wanted = [
                    (tie, (periods[0], *[periods[at] for at in chosen], periods[-1]))
                    for chosen in least_rows((tie, periods))
                ]
                self.assertEqual([line.row for line in lines], wanted)
                self.assertEqual([type(line) for line in lines], [Line] * len(lines))
                self.assertEqual([line == Line(tie, *periods) for line in lines], [True] * len(lines))

    def test_least_lines_are_new(self):
        line = Line("new", 2, 3)
        self.assertEqual([other.row for other in line.least_lines()], [line.row])
        self.assertIsNot(line.least_lines()[0], line)
        self.assertIsNot(line.least_lines()[0], line.least_lines()[0])
        self.assertEqual([other.row for other in Line("new", 1, 2, 3, 3, 1).least_lines()],
                         [("new", (1, 2, 3, 1))] * 2)


class Walking(Raises):

    def test_the_steps_of_a_round(self):
        for row, twelfths in each_case():
            line = line_of(row)
            phases = phases_of(twelfths, row[1])
            steps = list(line.walk(phases))
            fine = [period * 12 for period in row[1]]
            self.assertEqual(least_round(steps), pattern(row, phases))
            self.assertEqual(steps, walked_steps(row[0], fine, twelfths))

    def test_told_by_hand(self):
        line = Line("new", 3, 2, 3)
        self.assertEqual(list(line.walk([(0, 1), (1, 2), (-7, 3)])), [2, 0])
        self.assertEqual(list(line.walk(phases=[(0, 1)] * 3)), [0, 2])
        self.assertEqual(list(Line("new", 2, 3).walk(ZEROS)), [1, 2])
        self.assertEqual(list(Line("old", 2, 3).walk(ZEROS)), [2, 1])
        self.assertEqual(list(Line("new", 1, 60).walk(ZEROS)), [60])
        # A round of the pattern (1,) is shorter than what is walked.
        self.assertEqual(list(Line("new", 3, 2, 3).walk([(0, 1), (0, 1), (1, 1)])), [1, 1])

    def test_left_in_the_middle(self):
        line = Line("new", 2, 3)
        for step in line.walk(ZEROS):
            break
        self.assertEqual(step, 1)
        walk = iter(line.walk(ZEROS))
        self.assertEqual(next(walk), 1)
        self.assertEqual(list(line.walk(ZEROS)), [1, 2])
        self.assertEqual(list(walk), [2])
        self.assertEqual(list(walk), [])

    def test_two_inside_of_one_another(self):
        line = Line("new", 2, 3)
        other = Line("old", 2, 3)
        pairs = [(a, b, c) for a in line.walk(ZEROS) for b in line.walk(ZEROS)
                 for c in other.walk(ZEROS)]
        self.assertEqual(pairs, list(product([1, 2], [1, 2], [2, 1])))
        self.assertEqual(list(zip(line.walk(ZEROS), other.walk(ZEROS))), [(1, 2), (2, 1)])

    def test_up_to_300_steps(self):
        phases = [(0, 1), (1, 3), (7, 2)]
        for tie in TIES:
            steps = list(Line(tie, 60, 1, 59).walk(phases))
            self.assertEqual((len(steps), sum(steps)), (60, 59))
            steps = list(Line(tie, 60, 25, 1).walk(phases))
            self.assertEqual((len(steps), sum(steps)), (300, 5))
            self.assertEqual(least_round(steps), pattern((tie, (60, 25, 1)), phases))

    def test_wrong_phases(self):
        for phases in NO_PHASES:
            self.raises(InvalidPhases, lambda: next(iter(Line("new", 2, 3).walk(phases))))
        self.raises(InvalidPhases, lambda: list(Line("new", 2, 3, 4).walk(ZEROS)))

    def test_what_is_passed_stays(self):
        phases = [(0, 1), (-7, 3)]
        told = copy.deepcopy(phases)
        line = Line("old", 4, 6)
        list(line.walk(phases))
        self.assertEqual((phases, line.row), (told, ("old", (4, 6))))


class Reading(Raises):

    def test_the_text_of_a_row(self):
        self.assertEqual(Line.read("new 20 12 30").row, ("new", (20, 12, 30)))
        self.assertEqual(Line.read(text="old 1 60").row, ("old", (1, 60)))
        self.assertEqual(Line("new", 2, 3).read("old 1 1 1 1 1").row, ("old", (1, 1, 1, 1, 1)))
        self.assertIs(type(Line.read("new 2 3")), Line)

    def test_other_texts(self):
        for text, place in (("", 0), ("New 2 3", 0), ("new", 1), ("new 2", 2), ("new 2 61", 2),
                            ("new 2 3 ", 3), ("new 2 3 4 5 6 7", 6), ("new 02 3", 1)):
            with self.assertRaises(CopyError) as caught:
                Line.read(text)
            self.assertIs(type(caught.exception), InvalidText)
            self.assertEqual(caught.exception.place, place)


class BesideEachOther(Raises):

    def test_two_lines_of_one_row_are_independent(self):
        one, other = Line("new", 2, 3), Line("new", 2, 3)
        one[0] = 7
        one += 9
        self.assertEqual(other.row, ("new", (2, 3)))

    def test_wrong_rows_of_other_kinds(self):
        for row in NO_ROWS:
            if isinstance(row, tuple) and len(row) == 2 and isinstance(row[1], tuple):
                self.raises(InvalidRow, line_of, row)

    def test_wrong_times(self):
        for time in NO_TIMES:
            self.raises(InvalidTime, Line("new", 2, 3), ZEROS, time)
