"""Promise [12]: rows with the same patterns, and middle copiers that make no difference."""

import unittest
from itertools import combinations, product

from lastcopied.alike import alike, can_go, least_rows, parting, within
from lastcopied.errors import InvalidIndex, InvalidRow
from lastcopied.patterns import patterns
from tests.plain_walk import SMALL_ROWS
from tests.wrong_values import LONG, check_errors, check_raises

ROW = ("new", (3, 2, 3))
TIES = ("new", "old")
# Rows with the pattern (1,) alone or beside others, and rows without it.
SOME_ROWS = [(TIES[at % 2], periods) for at, periods in enumerate(SMALL_ROWS[::2])]


class Alike(unittest.TestCase):

    def test_the_examples_of_the_document(self):
        self.assertIs(alike(("new", (1, 2, 3)), ("new", (1, 3))), False)
        self.assertIs(alike(("old", (2, 4)), ("new", (1, 2))), True)
        self.assertIs(alike(("new", (20, 12, 30)), ("new", (20, 30))), True)

    def test_told_by_hand(self):
        for tie, behind in product(TIES, TIES):
            self.assertIs(alike((tie, (3, 2, 3)), (behind, (3, 2, 3))), True)
            self.assertIs(alike((tie, (3, 2, 3)), (behind, (3, 3))), False)
            self.assertIs(alike((tie, (3, 3)), (behind, (3, 2, 3))), False)
            self.assertIs(alike((tie, (2, 3)), (behind, (40, 60))), True)
            self.assertIs(alike((tie, (2, 3)), (behind, (3, 2))), False)
            self.assertIs(alike((tie, (1, 1)), (behind, (60, 30, 30, 15, 60))), True)

    def test_by_the_patterns(self):
        for one, other in product(SOME_ROWS, SOME_ROWS):
            self.assertIs(alike(one, other), patterns(one) == patterns(other), (one, other))

    def test_errors_and_names(self):
        check_errors(self, alike, {"one": ROW, "other": ("old", (2, 3))})
        self.assertIs(alike(other=("old", (4, 6)), one=("new", (2, 3))), True)


class Within(unittest.TestCase):

    def test_told_by_hand(self):
        for tie, behind in product(TIES, TIES):
            self.assertIs(within((tie, (3, 3)), (behind, (3, 2, 3))), True)
            self.assertIs(within((tie, (3, 2, 3)), (behind, (3, 3))), False)
            self.assertIs(within((tie, (3, 2, 3)), (behind, (3, 2, 3))), True)
            self.assertIs(within((tie, (2, 3, 2)), (behind, (2, 3, 2, 3, 2))), True)
            self.assertIs(within((tie, (2, 3, 2, 3, 2)), (behind, (2, 3, 2))), False)
            self.assertIs(within((tie, (1, 3)), (behind, (1, 2, 3))), False)
            self.assertIs(within((tie, (2, 4)), (behind, (1, 2))), True)

    def test_by_the_patterns(self):
        for one, other in product(SOME_ROWS, SOME_ROWS):
            wanted = set(patterns(one)) <= set(patterns(other))
            self.assertIs(within(one, other), wanted, (one, other))

    def test_errors_and_names(self):
        check_errors(self, within, {"one": ROW, "other": ("old", (2, 3))})
        self.assertIs(within(other=("old", (3, 2, 3)), one=("new", (3, 3))), True)


class Parting(unittest.TestCase):

    def test_told_by_hand(self):
        for tie, behind in product(TIES, TIES):
            # (2, 4) is less as a tuple, but (3,) has less steps.
            self.assertEqual(parting((tie, (1, 2, 3)), (behind, (1, 3))), (3,))
            self.assertEqual(parting((tie, (1, 3)), (behind, (1, 2, 3))), (3,))
            self.assertEqual(parting((tie, (3, 2, 3)), (behind, (3, 3))), (0, 2))
            self.assertEqual(parting((tie, (3, 3)), (behind, (3, 2, 3))), (0, 2))
            self.assertEqual(parting((tie, (2, 3, 2, 3, 2)), (behind, (2, 3, 2))), (0, 0, 3))
            # (0, 3) and (1, 2) are against (1, 2), and (0, 3) is against (0, 2) and (1,).
            self.assertEqual(parting((tie, (2, 3, 2, 3)), (behind, (2, 3))), (0, 3))
            self.assertEqual(parting((tie, (2, 3, 2, 3)), (behind, (3, 2, 3))), (1,))
            # Of (0, 1, 2), (0, 2, 1) and (1, 1, 2) the first one is the least.
            self.assertEqual(parting((tie, (3, 4)), (behind, (2, 3, 2))), (0, 1, 2))

    def test_none(self):
        self.assertIsNone(parting(ROW, ROW))
        self.assertIsNone(parting(("old", (2, 4)), ("new", (1, 2))))
        self.assertIsNone(parting(("new", (20, 30)), ("old", (20, 12, 30))))

    def test_by_the_patterns(self):
        for one, other in product(SOME_ROWS, SOME_ROWS):
            alone = set(patterns(one)) ^ set(patterns(other))
            wanted = min(alone, key=lambda pattern: (len(pattern), pattern), default=None)
            self.assertEqual(parting(one, other), wanted, (one, other))

    def test_errors_and_names(self):
        check_errors(self, parting, {"one": ROW, "other": ("old", (2, 3))})
        self.assertEqual(parting(other=("old", (1, 3)), one=("new", (1, 2))), (2,))


class CanGo(unittest.TestCase):

    def test_told_by_hand(self):
        for tie in TIES:
            self.assertIs(can_go((tie, (20, 12, 30)), 1), True)
            self.assertIs(can_go((tie, (1, 2, 3)), 1), False)
            self.assertIs(can_go((tie, (3, 2, 3)), 1), False)
            self.assertIs(can_go((tie, (3, 1, 3)), 1), True)
            self.assertIs(can_go((tie, (1, 2, 3, 3, 1)), 1), False)
            self.assertIs(can_go((tie, (1, 2, 3, 3, 1)), 2), True)
            self.assertIs(can_go((tie, (1, 2, 3, 3, 1)), 3), True)
            self.assertIs(can_go((tie, (1, 2, 1, 3, 1)), 2), True)

    def test_by_the_patterns(self):
        for tie, periods in product(TIES, SMALL_ROWS):
            for index in range(1, len(periods) - 1):
                left = (tie, periods[:index] + periods[index + 1:])
                wanted = patterns((tie, periods)) == patterns(left)
                self.assertIs(can_go((tie, periods), index), wanted, (periods, index))

    def test_no_index_of_a_middle_copier(self):
        for periods in ((2, 3), (2, 3, 2), (2, 3, 2, 3), (2, 3, 2, 3, 2)):
            row = ("old", periods)
            for index in (0, len(periods) - 1, len(periods), -1, -2, 5, LONG, -LONG, True, None):
                check_raises(self, InvalidIndex, can_go, {"row": row, "index": index})
        # A row of two copiers has no middle one at all.
        check_raises(self, InvalidIndex, can_go, {"row": ("new", (2, 3)), "index": 1})
        check_raises(self, InvalidRow, can_go, {"row": ("new", (2,)), "index": 1})

    def test_errors_and_names(self):
        check_errors(self, can_go, {"row": ROW, "index": 1})
        self.assertIs(can_go(index=1, row=("old", (20, 12, 30))), True)


class LeastRows(unittest.TestCase):

    def test_told_by_hand(self):
        for tie in TIES:
            for periods, wanted in (
                    ((20, 12, 30), [[]]), ((1, 2, 3), [[1]]), ((3, 2, 3), [[1]]), ((3, 1, 3), [[]]),
                    ((1, 2, 2, 1), [[1], [2]]), ((1, 1, 2, 1), [[2]]), ((1, 2, 3, 1), [[1, 2]]),
                    ((1, 2, 2, 2, 1), [[1], [2], [3]]), ((1, 2, 1, 2, 1), [[1], [3]]),
                    ((1, 2, 3, 3, 1), [[1, 2], [1, 3]]), ((1, 2, 2, 3, 1), [[1, 3], [2, 3]]),
                    ((1, 2, 1, 3, 1), [[1, 3]]), ((1, 2, 3, 2, 1), [[1, 2, 3]]),
                    ((1, 1, 1, 1, 1), [[]])):
                self.assertEqual(least_rows((tie, periods)), wanted, periods)

    def test_no_middle_copier(self):
        for periods in ((2, 3), (1, 1), (60, 1)):
            self.assertEqual(least_rows(("new", periods)), [[]])

    def test_shorter_lists_first(self):
        # One copier alone does what the two others do together.
        for tie in TIES:
            self.assertEqual(least_rows((tie, (15, 10, 2, 5, 6))), [[1], [2, 3]])
            self.assertEqual(least_rows((tie, (15, 2, 10, 5, 6))), [[2], [1, 3]])
            self.assertEqual(least_rows((tie, (15, 2, 5, 10, 12))), [[3], [1, 2]])

    def test_by_the_patterns(self):
        rows = [periods for periods in SMALL_ROWS if len(periods) > 2]
        rows += [(3, 2, 2, 3), (3, 2, 6, 3), (6, 4, 2, 4, 6), (2, 3, 6, 3, 2), (4, 3, 6, 2, 4)]
        rows += [(15, 10, 2, 5, 6), (15, 2, 10, 5, 6), (15, 2, 5, 10, 12)]
        for at, periods in enumerate(rows):
            row = (TIES[at % 2], periods)
            doing = []
            for size in range(len(periods) - 1):
                for chosen in combinations(range(1, len(periods) - 1), size):
                    left = (periods[0], *[periods[index] for index in chosen], periods[-1])
                    if patterns(("new", left)) == patterns(row):
                        doing.append(chosen)
            wanted = [list(chosen) for chosen in doing
                      if not any(set(some) < set(chosen) for some in doing)]
            self.assertEqual(least_rows(row), wanted, row)

    def test_errors_and_names(self):
        check_errors(self, least_rows, {"row": ROW})
        self.assertEqual(least_rows(row=("old", (3, 3))), [[]])

    def test_changed_lists_change_no_later_answer(self):
        row = ("new", (1, 2, 2, 1))
        found = least_rows(row)
        found[0].append(5)
        self.assertEqual(found, [[1, 5], [2]])
        found.reverse()
        self.assertEqual(least_rows(row), [[1], [2]])
