"""Promise [14]: two branches from one source to one reader."""

import unittest
from fractions import Fraction
from itertools import product
from math import lcm

from lastcopied.errors import InvalidRow, OtherEnds
from lastcopied.joins import apart_phases, differences, together
from lastcopied.rows import arrivals, is_phases
from tests.plain_walk import walked_arrivals, walked_gaps
from tests.wrong_values import NO_ROWS, check_errors, check_raises

ONE = ("new", (3, 2, 3))
OTHER = ("new", (3, 3))
TIES = ("new", "old")
CALLS = (differences, together, apart_phases)
# Source, middle copiers of the one, those of the other, and reader.
SMALL_PAIRS = [
    (source, ones, others, reader)
    for source, reader in product((1, 2, 3, 4), repeat=2)
    for ones, others in (((), ()), ((1,), ()), ((2,), ()), ((), (3,)), ((4,), ()), ((2,), (2,)),
                         ((2,), (3,)), ((1,), (2,)), ((4,), (3,)))
] + [
    (1, (2, 1), (), 1), (2, (2, 1), (), 1), (2, (), (1, 2), 1), (2, (3, 1), (), 1), (3, (1, 1), (), 1),
    (2, (1, 1), (), 1), (4, (3,), (1,), 2), (2, (4,), (3,), 2), (5, (2,), (), 2), (4, (2,), (), 3),
    (4, (), (6,), 4), (3, (4,), (2,), 1),
    (1, (2, 1), (1,), 1), (2, (1, 1), (1,), 2), (1, (1, 2, 1), (), 1), (2, (2, 1), (3,), 1),
]
# Both together have three middle copiers; periods and products are beyond what plain walks allow.
LARGE_PAIRS = [
    (1, (4, 5, 9), (), 1), (2, (), (5, 4, 5), 1), (1, (2, 3), (5,), 6), (7, (2, 7), (1,), 2),
    (9, (2, 1), (2,), 5), (2, (10, 5, 2), (), 1), (1, (1, 31), (2,), 3), (5, (2, 2), (2,), 5),
    (8, (3, 1), (2,), 4), (10, (2, 1), (1,), 10), (1, (10,), (20,), 1), (5, (6,), (), 6),
    (14, (), (), 14), (60, (1, 1, 1), (), 3), (3, (1, 1), (1,), 60), (1, (50,), (4,), 1),
]


def branches(pair, tie):
    """The two rows of a pair."""
    source, ones, others, reader = pair
    return (tie, (source, *ones, reader)), (tie, (source, *others, reader))


def round_of(one, other):
    """How many arrivals there are until both surely repeat."""
    return lcm(*one[1], *other[1]) // one[1][-1]


def check_apart(test, one, other, found):
    """What is found are common phases of both with unlike numbers at all moments."""
    test.assertIs(type(found), tuple)
    test.assertEqual(len(found), 2)
    test.assertIsNot(found[0], found[1])
    test.assertTrue(is_phases(one, found[0]), found)
    test.assertTrue(is_phases(other, found[1]), found)
    test.assertEqual(found[0][0], found[1][0])
    test.assertEqual(found[0][-1], found[1][-1])
    many = round_of(one, other) + 3
    scale = lcm(*[bottom for phases in found for _, bottom in phases])
    walks = []
    for (tie, periods), phases in zip((one, other), found):
        starts = [int(Fraction(*phase) * scale) for phase in phases]
        walks.append(walked_arrivals(tie, [period * scale for period in periods], starts, many))
        test.assertEqual(arrivals((tie, periods), phases, 0, many), walks[-1])
    test.assertFalse([k for k in range(many) if walks[0][k] == walks[1][k]], (one, other, found))


class AgainstPlainWalks(unittest.TestCase):

    def test_all_common_phases_of_small_branches(self):
        for at, pair in enumerate(SMALL_PAIRS):
            one, other = branches(pair, TIES[at % 2])
            gaps = list(walked_gaps(one, other, len(one[1]) + len(other[1]) - 2))
            wanted = sorted({gap for steps in gaps for gap in steps})
            self.assertEqual(differences(one, other), wanted, (one, other))
            apart = any(0 not in steps for steps in gaps)
            always = wanted == [0]
            told = "always" if always else "perhaps" if apart else "surely"
            self.assertEqual(together(one, other), told, (one, other))
            found = apart_phases(one, other)
            self.assertIs(found is not None, apart, (one, other))
            if apart:
                check_apart(self, one, other, found)

    def test_a_finer_grid_shows_nothing_new(self):
        for at, pair in enumerate(SMALL_PAIRS[:40:3] + SMALL_PAIRS[-3:]):
            one, other = branches(pair, TIES[at % 2])
            copiers = len(one[1]) + len(other[1]) - 2
            shown = [any(0 not in steps for steps in walked_gaps(one, other, grid))
                     for grid in (copiers, copiers + 1, 2 * copiers)]
            self.assertEqual(shown, [together(one, other) == "perhaps"] * 3, (one, other))

    def test_the_tie_does_not_matter(self):
        for pair in SMALL_PAIRS + LARGE_PAIRS:
            for call in (differences, together):
                self.assertEqual(call(*branches(pair, "new")), call(*branches(pair, "old")), pair)


class Differences(unittest.TestCase):

    def test_told_by_hand(self):
        for tie in TIES:
            for source, ones, others, reader, wanted in (
                    (2, (), (), 3, [0]), (2, (1,), (), 3, [-1, 0]), (2, (2,), (), 3, [-1, 0]),
                    (2, (3,), (), 3, [-2, -1, 0]), (2, (), (3,), 3, [0, 1, 2]),
                    (2, (3,), (3,), 3, [-2, -1, 0, 1, 2]), (3, (1, 1, 1), (), 1, [-1, 0]),
                    (3, (2, 2), (1,), 1, [-2, -1, 0, 1]), (60, (), (1,), 1, [0, 1])):
                one, other = branches((source, ones, others, reader), tie)
                self.assertEqual(differences(one, other), wanted)

    def test_beyond_the_limits_of_use(self):
        one, other = branches((1, (60, 59, 58), (57, 56, 55), 60), "old")
        self.assertEqual(differences(one, other), list(range(-177, 169)))

    def test_a_changed_list_changes_no_later_answer(self):
        differences(ONE, OTHER).append(7)
        self.assertEqual(differences(ONE, OTHER), [-1, 0])


class Together(unittest.TestCase):

    def test_always(self):
        for tie in TIES:
            for periods in ((1, 1), (2, 3), (60, 1), (14, 14)):
                self.assertEqual(together((tie, periods), (tie, periods)), "always")
                self.assertIsNone(apart_phases((tie, periods), (tie, periods)))

    def test_the_same_row_with_a_middle_copier(self):
        # Its middle copier need not begin at the same time in both branches.
        for tie in TIES:
            self.assertEqual(together((tie, (3, 2, 3)), (tie, (3, 2, 3))), "perhaps")
            self.assertEqual(together((tie, (2, 1, 1)), (tie, (2, 1, 1))), "surely")

    def test_surely_and_perhaps(self):
        for tie in TIES:
            for source, ones, others, reader, wanted in (
                    (2, (1,), (), 1, "surely"), (2, (2,), (), 1, "perhaps"),
                    (2, (), (3,), 1, "surely"), (1, (2,), (3,), 1, "surely"),
                    (1, (2,), (4,), 1, "perhaps"), (4, (3,), (1,), 3, "surely"),
                    (4, (3,), (), 4, "perhaps"), (2, (4,), (3,), 2, "surely")):
                one, other = branches((source, ones, others, reader), tie)
                self.assertEqual(together(one, other), wanted, (one, other))
                self.assertEqual(together(other, one), wanted, (one, other))

    def test_integer_phases_are_not_enough(self):
        # At integer phases all three begin at the same times, so that nothing is late.
        one, other = ("new", (1, 1, 1)), ("new", (1, 1))
        self.assertEqual({gap for steps in walked_gaps(one, other, 1) for gap in steps}, {0})
        self.assertEqual(together(one, other), "perhaps")
        self.assertEqual(differences(one, other), [-1, 0])


class ApartPhases(unittest.TestCase):

    def test_large_branches(self):
        known = set()
        for pair in LARGE_PAIRS:
            for tie in TIES:
                for one, other in (branches(pair, tie), branches(pair, tie)[::-1]):
                    found = apart_phases(one, other)
                    known.add(together(one, other))
                    self.assertIs(found is None, together(one, other) != "perhaps", (one, other))
                    if found is not None:
                        check_apart(self, one, other, found)
        self.assertEqual(known, {"always", "surely", "perhaps"})

    def test_changed_lists_change_no_later_answer(self):
        wanted = apart_phases(ONE, OTHER)
        for phases in apart_phases(ONE, OTHER):
            phases.clear()
        self.assertEqual(apart_phases(ONE, OTHER), wanted)


class WrongValues(unittest.TestCase):

    def test_errors_and_names(self):
        for call in CALLS:
            check_errors(self, call, {"one": ONE, "other": OTHER})
            self.assertEqual(call(other=OTHER, one=ONE), call(ONE, OTHER))

    def test_other_ends(self):
        others = [
            ("old", (3, 3)), ("old", (3, 2, 3)), ("new", (2, 3)), ("new", (3, 2)), ("new", (2, 2, 3)),
            ("new", (3, 2, 2)), ("new", (2, 2)), ("new", (6, 6)), ("old", (2, 2)), ("new", (1, 3, 1)),
        ]
        for call in CALLS:
            for other in others:
                check_raises(self, OtherEnds, call, {"one": ONE, "other": other})
                check_raises(self, OtherEnds, call, {"one": other, "other": ONE})

    def test_invalid_rows_come_ahead_of_other_ends(self):
        for call in CALLS:
            for row in NO_ROWS:
                check_raises(self, InvalidRow, call, {"one": ("old", (1, 1)), "other": row})
                check_raises(self, InvalidRow, call, {"one": row, "other": ("old", (1, 1))})
