"""Promise [10] by examples, edges and wrong values; test_facts.py holds it against plain walks."""

import unittest

from lastcopied.patterns import least_phases, loses, patterns, repeats, totals, turned
from tests.wrong_values import check_errors

# Its patterns are (0, 2) and (1,).
ROW = ("new", (3, 2, 3))
TIES = ("new", "old")


class Patterns(unittest.TestCase):

    def test_the_example_of_the_document(self):
        self.assertEqual(patterns(("new", (2, 3))), [(1, 2)])
        self.assertEqual(patterns(("new", (1, 2, 3))), [(2, 4)])
        self.assertEqual(patterns(("new", (1, 3))), [(3,)])
        self.assertEqual(patterns(("old", (2, 4))), [(2,)])
        self.assertEqual(patterns(("new", (1, 2))), [(2,)])
        self.assertEqual(patterns(("new", (20, 12, 30))), [(1, 2)])
        self.assertEqual(patterns(("new", (20, 30))), [(1, 2)])

    def test_several_ascending(self):
        for tie in TIES:
            self.assertEqual(patterns((tie, (3, 2, 3))), [(0, 2), (1,)])
            self.assertEqual(patterns((tie, (2, 3, 2))), [(0, 1, 2), (0, 2, 1)])
            self.assertEqual(patterns((tie, (1, 2, 3, 2))), [(0, 2, 4), (0, 4, 2)])
            self.assertEqual(patterns((tie, (2, 3, 2, 3))), [(0, 3), (1, 2)])
            self.assertEqual(patterns((tie, (2, 3, 2, 3, 2))), [(0, 0, 3), (0, 1, 2), (0, 2, 1)])

    def test_periods_at_their_bounds(self):
        self.assertEqual(patterns(("new", (1, 1))), [(1,)])
        self.assertEqual(patterns(("old", (60, 60))), [(1,)])
        self.assertEqual(patterns(("new", (1, 60))), [(60,)])
        self.assertEqual(patterns(("old", (60, 1))), [(0,) * 59 + (1,)])
        self.assertEqual(patterns(("old", (1, 1, 1, 1, 1))), [(1,)])

    def test_at_the_limits_of_use(self):
        for periods in ((60, 5, 5, 5, 8), (7, 1, 1, 20, 50), (8, 10, 5, 5, 4), (12, 3, 4, 5, 15)):
            found = patterns(("old", periods))
            self.assertEqual(found, sorted(found))
            self.assertEqual(len(found), len(set(found)))
        self.assertEqual(len(patterns(("old", (8, 10, 5, 5, 4)))), 2)

    def test_errors_and_names(self):
        check_errors(self, patterns, {"row": ROW})
        self.assertEqual(patterns(row=ROW), [(0, 2), (1,)])

    def test_a_changed_list_changes_no_later_answer(self):
        found = patterns(ROW)
        found.reverse()
        found.append(())
        self.assertEqual(patterns(ROW), [(0, 2), (1,)])
        self.assertIsNot(patterns(ROW), patterns(ROW))


class LeastPhases(unittest.TestCase):

    def test_told_by_hand(self):
        for tie in TIES:
            self.assertEqual(least_phases((tie, (2, 3)), (1, 2)), [0, 0])
            self.assertEqual(least_phases((tie, (3, 2, 3)), (0, 2)), [0, 0, 0])
            self.assertEqual(least_phases((tie, (3, 2, 3)), (1,)), [0, 0, 1])
            self.assertEqual(least_phases((tie, (2, 3, 2)), (0, 2, 1)), [0, 0, 1])
            self.assertEqual(least_phases((tie, (2, 3, 2, 3, 2)), (0, 1, 2)), [0, 0, 0, 1, 1])

    def test_errors_and_names(self):
        check_errors(self, least_phases, {"row": ROW, "pattern": (1,)})
        self.assertEqual(least_phases(pattern=(1,), row=ROW), [0, 0, 1])

    def test_a_changed_list_changes_no_later_answer(self):
        found = least_phases(ROW, (1,))
        found[0] = 5
        self.assertEqual(least_phases(ROW, (1,)), [0, 0, 1])


class Totals(unittest.TestCase):

    def test_told_by_hand(self):
        # In three ticks the source takes up one or two numbers, in six ticks three.
        for tie in TIES:
            self.assertEqual(totals((tie, (2, 3)), 1), [1, 2])
            self.assertEqual(totals((tie, (2, 3)), 2), [3])
            self.assertEqual(totals((tie, (2, 3)), 3), [4, 5])
            self.assertEqual(totals((tie, (3, 2, 3)), 1), [0, 1, 2])
            self.assertEqual(totals((tie, (1, 4, 2)), 1), [0, 4])
            self.assertEqual(totals((tie, (1, 2, 3, 2)), 1), [0, 2, 4])
            self.assertEqual(totals((tie, (5, 4)), 1), [0, 1])

    def test_no_steps(self):
        for periods in ((2, 3), (60, 1), (3, 2, 3), (59, 58, 57, 53, 47)):
            self.assertEqual(totals(("old", periods), 0), [0])

    def test_the_most_steps(self):
        self.assertEqual(totals(("new", (2, 3)), 2000), [3000])
        self.assertEqual(totals(("old", (7, 3)), 2000), [857, 858])
        self.assertEqual(totals(("old", (1, 60)), 2000), [120000])

    def test_beyond_the_limits_of_use(self):
        # 19 is brought to 17 or 34, to 13, 26 or 39, to 11, 22, 33 or 44, and to 1 to 7 times 7.
        row = ("new", (7, 11, 13, 17, 19))
        self.assertEqual(totals(row, 1), [1, 2, 3, 4, 5, 6, 7])
        self.assertIs(loses(row), True)
        self.assertIs(repeats(row), False)
        self.assertEqual(totals(("new", (1, 60, 59, 58, 57)), 1), [0, 60])
        row = ("old", (59, 58, 57, 53, 47))
        self.assertEqual(totals(row, 1), [0, 1])
        self.assertIs(loses(row), False)
        self.assertIs(repeats(row), True)

    def test_errors_and_names(self):
        check_errors(self, totals, {"row": ROW, "many": 3})
        self.assertEqual(totals(many=0, row=ROW), [0])

    def test_a_changed_list_changes_no_later_answer(self):
        found = totals(ROW, 1)
        found.clear()
        self.assertEqual(totals(ROW, 1), [0, 1, 2])


class Turned(unittest.TestCase):

    def test_told_by_hand(self):
        for tie in TIES:
            # n c n n c from behind and exchanged is n c c n c.
            self.assertEqual(turned((tie, (2, 3)), (1, 2)), (0, 1, 1))
            self.assertEqual(turned((tie, (3, 2)), (0, 1, 1)), (1, 2))
            self.assertEqual(turned((tie, (3, 2, 3)), (0, 2)), (0, 2))
            self.assertEqual(turned((tie, (3, 2, 3)), (1,)), (1,))
            self.assertEqual(turned((tie, (2, 3, 2, 3)), (0, 3)), (0, 0, 2))
            self.assertEqual(turned((tie, (2, 3, 2, 3)), (1, 2)), (0, 1, 1))
            self.assertEqual(turned((tie, (1, 60)), (60,)), (0,) * 59 + (1,))
            self.assertEqual(turned((tie, (60, 1)), (0,) * 59 + (1,)), (60,))
            self.assertEqual(turned((tie, (2, 4)), (2,)), (0, 1))
            # c n c n n c from behind and exchanged is n c c n c n, so n n c c n c.
            self.assertEqual(turned((tie, (2, 3, 2)), (0, 1, 2)), (0, 1, 2))
            self.assertEqual(turned((tie, (2, 3, 2)), (0, 2, 1)), (0, 2, 1))

    def test_errors_and_names(self):
        check_errors(self, turned, {"row": ROW, "pattern": (0, 2)})
        self.assertEqual(turned(pattern=(1,), row=ROW), (1,))


class LosesAndRepeats(unittest.TestCase):

    def test_two_copiers(self):
        for tie in TIES:
            for source in (1, 2, 3, 59, 60):
                for reader in (1, 2, 3, 59, 60):
                    row = (tie, (source, reader))
                    self.assertIs(loses(row), reader > source, row)
                    self.assertIs(repeats(row), reader < source, row)

    def test_middle_copiers(self):
        for periods, losing, repeating in (
                ((3, 2, 3), True, True), ((1, 2, 3), True, False), ((4, 2, 2), False, True),
                ((4, 2, 3), False, True), ((4, 6, 3), True, True), ((2, 2, 2), False, False),
                ((1, 1, 1, 1, 1), False, False), ((2, 3, 3, 3, 3), True, False)):
            for tie in TIES:
                self.assertIs(loses((tie, periods)), losing, periods)
                self.assertIs(repeats((tie, periods)), repeating, periods)

    def test_errors_and_names(self):
        check_errors(self, loses, {"row": ROW})
        check_errors(self, repeats, {"row": ROW})
        self.assertIs(loses(row=("new", (1, 1))), False)
        self.assertIs(repeats(row=("new", (1, 1))), False)
