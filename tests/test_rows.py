"""Promise [9] for told phases: rows, phases, what the reader holds and takes, and its pattern."""

import copy
import unittest
from fractions import Fraction
from math import floor

from lastcopied.errors import InvalidRow
from lastcopied.rows import arrivals, is_phases, is_row, number_at, pattern, settled
from tests.cases import each_case, phases_of
from tests.plain_walk import least_round, walked_arrivals, walked_steps
from tests.wrong_values import LONG, NO_PHASES, NO_ROWS, check_errors, check_raises

ZEROS = [(0, 1), (0, 1)]


class IsRow(unittest.TestCase):

    def test_rows(self):
        for periods in ((1, 1), (60, 60), (1, 60), (2, 3), (2, 3, 4), (1, 2, 3, 4),
                        (60, 1, 30, 7, 60), (59, 58, 57, 56, 55)):
            for tie in ("new", "old"):
                self.assertIs(is_row((tie, periods)), True)
                self.assertIs(is_row(value=(tie, periods)), True)

    def test_no_rows(self):
        for value in NO_ROWS:
            self.assertIs(is_row(value), False, value)


class IsPhases(unittest.TestCase):

    def test_phases(self):
        row = ("new", (2, 3))
        for value in (ZEROS, [(1, 2), (-7, 3)], [(-LONG, 1), (LONG, 2)], [(1, LONG), (0, 1)]):
            self.assertIs(is_phases(row, value), True)
            self.assertIs(is_phases(row=row, value=value), True)
        self.assertIs(is_phases(("old", (1, 1, 1, 1, 1)), [(k, 7) for k in range(1, 6)]), True)
        self.assertIs(is_phases(("old", (1, 1, 1, 1, 1)), ZEROS), False)
        self.assertIs(is_phases(("old", (60, 60, 60)), [(0, 1)] * 3), True)

    def test_no_phases(self):
        for value in NO_PHASES:
            self.assertIs(is_phases(("old", (2, 3)), value), False, value)

    def test_a_wrong_row(self):
        for row in NO_ROWS:
            for value in (ZEROS, None):
                check_raises(self, InvalidRow, is_phases, {"row": row, "value": value})


class NumberAt(unittest.TestCase):

    def test_told_by_hand(self):
        # The reader has moments at -3, 0, 3, 6, the source takes up number k at 2 * k.
        row = ("new", (2, 3))
        for time, number in (((-1, 2), -2), ((0, 1), 0), ((1, 1), 0), ((5, 2), 0), ((3, 1), 1),
                             ((6, 1), 3), ((35, 6), 1), ((-3, 1), -2), ((-6, 1), -3)):
            self.assertEqual(number_at(row, ZEROS, time), number)

    def test_the_tie_decides_at_equal_moments(self):
        for time, new, old in (((0, 1), 0, -1), ((6, 1), 3, 2), ((3, 1), 1, 1), ((8, 1), 3, 2)):
            self.assertEqual(number_at(("new", (2, 3)), ZEROS, time), new)
            self.assertEqual(number_at(("old", (2, 3)), ZEROS, time), old)

    def test_a_tie_all_along_the_row(self):
        phases = [(1, 3)] * 5
        self.assertEqual(number_at(("new", (1,) * 5), phases, (1, 3)), 0)
        self.assertEqual(number_at(("old", (1,) * 5), phases, (1, 3)), -4)

    def test_against_a_plain_walk(self):
        for row, twelfths in each_case():
            phases = phases_of(twelfths, row[1])
            fine = [12 * period for period in row[1]]
            numbers = walked_arrivals(row[0], fine, twelfths, 4)
            for ahead in (0, 1, 12 * row[1][-1] - 1):
                time = Fraction(twelfths[-1] + 2 * fine[-1] + ahead, 12)
                told = (time.numerator, time.denominator)
                self.assertEqual(number_at(row, phases, told), numbers[2], (row, phases, told))

    def test_times_between_the_ticks(self):
        row = ("old", (2, 3))
        phases = [(1, 7), (2, 11)]
        for number in range(-5, 6):
            time = Fraction(2, 11) + 3 * number
            wanted = floor((time - Fraction(1, 7)) / 2)
            behind = time + Fraction(299999999, 10 ** 8)
            ahead = time - Fraction(1, 10 ** 20)
            self.assertEqual(number_at(row, phases, time.as_integer_ratio()), wanted)
            self.assertEqual(number_at(row, phases, behind.as_integer_ratio()), wanted)
            self.assertNotEqual(number_at(row, phases, ahead.as_integer_ratio()), wanted)

    def test_far_off(self):
        for row, twelfths in each_case():
            near = phases_of(twelfths, row[1])
            for shift in (Fraction(10 ** 29, 7), Fraction(-10 ** 29 - 1, 11)):
                far = [(Fraction(*phase) + shift).as_integer_ratio() for phase in near]
                time = (Fraction(5, 12) + shift).as_integer_ratio()
                self.assertEqual(number_at(row, far, time), number_at(row, near, (5, 12)))

    def test_errors(self):
        right = {"row": ("new", (2, 3)), "phases": ZEROS, "time": (1, 2)}
        check_errors(self, number_at, right)

    def test_by_name(self):
        self.assertEqual(number_at(time=(5, 1), phases=ZEROS, row=("new", (2, 3))), 1)


class Arrivals(unittest.TestCase):

    def test_told_by_hand(self):
        self.assertEqual(arrivals(("new", (2, 3)), ZEROS, 0, 5), [0, 1, 3, 4, 6])
        self.assertEqual(arrivals(("old", (2, 3)), ZEROS, 0, 5), [-1, 1, 2, 4, 5])
        self.assertEqual(arrivals(("new", (2, 3)), ZEROS, -4, 5), [-6, -5, -3, -2, 0])
        self.assertEqual(arrivals(("new", (2, 3)), [(1, 2), (1, 3)], -1, 4), [-2, -1, 1, 2])
        self.assertEqual(arrivals(("new", (1, 2, 3)), [(0, 1)] * 3, 0, 4), [0, 2, 6, 8])
        self.assertEqual(arrivals(("old", (1, 2, 3)), [(0, 1)] * 3, 0, 4), [-3, 1, 3, 7])

    def test_none(self):
        self.assertEqual(arrivals(("new", (2, 3)), ZEROS, 0, 0), [])
        self.assertEqual(arrivals(("old", (60, 1)), ZEROS, -LONG, 0), [])

    def test_many(self):
        self.assertEqual(arrivals(("new", (1, 60)), ZEROS, -1000, 2000),
                         [60 * number for number in range(-1000, 1000)])

    def test_a_far_first(self):
        self.assertEqual(arrivals(("new", (2, 4)), ZEROS, LONG, 2), [2 * LONG, 2 * LONG + 2])
        self.assertEqual(arrivals(("old", (2, 4)), ZEROS, -LONG, 2), [-2 * LONG - 1, -2 * LONG + 1])

    def test_against_a_plain_walk(self):
        for row, twelfths in each_case():
            fine = [12 * period for period in row[1]]
            wanted = walked_arrivals(row[0], fine, twelfths, 9)
            phases = phases_of(twelfths, row[1])
            self.assertEqual(arrivals(row, phases, 0, 9), wanted, (row, phases))
            self.assertEqual(arrivals(row, phases, -4, 13)[4:], wanted, (row, phases))

    def test_below_zero(self):
        # Numbers below 0 are the numbers of moments that were made the first ones by the phases.
        for row, twelfths in each_case():
            phases = phases_of(twelfths, row[1])
            back = list(phases)
            back[-1] = (Fraction(*phases[-1]) - 7 * row[1][-1]).as_integer_ratio()
            self.assertEqual(arrivals(row, phases, -7, 9), arrivals(row, back, 0, 9))

    def test_they_are_the_numbers_at_the_moments(self):
        for row, twelfths in each_case():
            phases = phases_of(twelfths, row[1])
            moments = [Fraction(*phases[-1]) + number * row[1][-1] for number in range(-5, 3)]
            self.assertEqual([number_at(row, phases, moment.as_integer_ratio()) for moment in moments],
                             arrivals(row, phases, -5, 8))

    def test_errors(self):
        right = {"row": ("new", (2, 3)), "phases": ZEROS, "first": -3, "many": 2}
        check_errors(self, arrivals, right)

    def test_by_name(self):
        self.assertEqual(arrivals(many=1, first=2, phases=ZEROS, row=("new", (2, 3))), [3])

    def test_a_changed_list_changes_no_later_answer(self):
        found = arrivals(("new", (2, 3)), ZEROS, 0, 3)
        found.append(7)
        found[0] = None
        self.assertEqual(arrivals(("new", (2, 3)), ZEROS, 0, 3), [0, 1, 3])


class Pattern(unittest.TestCase):

    def test_told_by_hand(self):
        self.assertEqual(pattern(("new", (2, 3)), ZEROS), (1, 2))
        self.assertEqual(pattern(("old", (2, 3)), ZEROS), (1, 2))
        self.assertEqual(pattern(("new", (3, 2)), [(0, 1), (7, 2)]), (0, 1, 1))
        self.assertEqual(pattern(("new", (1, 4, 2)), [(1, 3), (1, 2), (3, 5)]), (0, 4))
        self.assertEqual(pattern(("new", (60, 60)), [(-1, 2), (0, 1)]), (1,))
        self.assertEqual(pattern(("old", (60, 1)), ZEROS), (0,) * 59 + (1,))
        self.assertEqual(pattern(("old", (1, 60)), ZEROS), (60,))

    def test_turned_to_its_least(self):
        for first in range(6):
            phases = [(0, 1), (2 * first, 1)]
            self.assertEqual(pattern(("new", (3, 2)), phases), (0, 1, 1))

    def test_made_as_short_as_it_can_be(self):
        self.assertEqual(pattern(("new", (3, 2, 3)), [(0, 1)] * 3), (0, 2))
        self.assertEqual(pattern(("new", (3, 2, 3)), [(0, 1), (0, 1), (1, 1)]), (1,))
        self.assertEqual(pattern(("old", (20, 12, 30)), [(1, 2), (2, 3), (-9, 1)]), (1, 2))

    def test_the_tie_decides_at_equal_moments(self):
        # For "old" the arrivals at 0, 3 and 6 come from -2, 2 and 4, and from -3, 0 and 3: -1, 0, 1.
        phases = [(0, 1), (0, 1), (0, 1)]
        self.assertEqual(pattern(("new", (3, 2, 3)), phases), (0, 2))
        self.assertEqual(pattern(("old", (3, 2, 3)), phases), (1,))

    def test_against_a_plain_walk(self):
        for row, twelfths in each_case():
            fine = [12 * period for period in row[1]]
            wanted = least_round(walked_steps(row[0], fine, twelfths))
            self.assertEqual(pattern(row, phases_of(twelfths, row[1])), wanted, (row, twelfths))

    def test_many_steps(self):
        phases = [(1, 2), (5, 1), (-7, 3)]
        found = pattern(("new", (60, 59, 5)), [(0, 1)] * 3)
        self.assertEqual((len(found), sum(found)), (708, 59))
        self.assertEqual(pattern(("old", (4, 25, 3)), phases),
                         least_round(walked_steps("old", [24, 150, 18], [3, 30, -14])))

    def test_errors(self):
        check_errors(self, pattern, {"row": ("new", (2, 3)), "phases": ZEROS})

    def test_by_name(self):
        self.assertEqual(pattern(phases=ZEROS, row=("old", (2, 4))), (2,))


class Settled(unittest.TestCase):

    def test_told_by_hand(self):
        self.assertEqual(settled(("old", (2, 3)), [(1, 2), (-9, 7)]), [0, 0])
        self.assertEqual(settled(("new", (3, 2, 3)), [(0, 1)] * 3), [0, 0, 0])
        self.assertEqual(settled(("new", (3, 2, 3)), [(0, 1), (0, 1), (1, 1)]), [0, 0, 1])
        self.assertEqual(settled(("new", (2, 3, 2)), [(0, 1)] * 3), [0, 0, 0])
        self.assertEqual(settled(("old", (2, 3, 2)), [(0, 1)] * 3), [0, 0, 0])
        self.assertEqual(settled(("old", (3, 2, 3)), [(0, 1)] * 3), [0, 0, 1])
        self.assertEqual(settled(("old", (3, 2, 3)), [(0, 1), (0, 1), (2, 1)]), [0, 0, 0])

    def test_broken_and_far_phases(self):
        # Each copier begins a little behind the one ahead of it, as with the tie "new" at once.
        self.assertEqual(settled(("new", (3, 2, 3)), [(1, 9), (1, 8), (1, 7)]), [0, 0, 0])
        self.assertEqual(settled(("old", (3, 2, 3)), [(1, 9), (1, 8), (1, 7)]), [0, 0, 0])
        # Each copier begins a little ahead of the one ahead of it, as with the tie "old" at once.
        self.assertEqual(settled(("new", (3, 2, 3)), [(1, 7), (1, 8), (1, 9)]), [0, 0, 1])
        below = [(-6 * 10 ** 28 * 7 + 1, 7), (6 * 10 ** 28 * 8 + 1, 8), (1, 9)]
        self.assertEqual(settled(("new", (3, 2, 3)), below), [0, 0, 1])

    def test_errors(self):
        check_errors(self, settled, {"row": ("new", (2, 3)), "phases": ZEROS})

    def test_by_name(self):
        self.assertEqual(settled(phases=ZEROS, row=("old", (2, 4))), [0, 0])

    def test_a_changed_list_changes_no_later_answer(self):
        found = settled(("old", (3, 2, 3)), [(0, 1)] * 3)
        found[2] = 9
        self.assertEqual(settled(("old", (3, 2, 3)), [(0, 1)] * 3), [0, 0, 1])


class Arguments(unittest.TestCase):

    def test_they_stay_as_they_were(self):
        row = ("old", (2, 3, 2))
        phases = [(-1, 2), (7, 3), (0, 1)]
        as_it_was = copy.deepcopy(phases)
        is_phases(row, phases)
        number_at(row, phases, (1, 5))
        arrivals(row, phases, -3, 20)
        pattern(row, phases)
        settled(row, phases)
        self.assertEqual(phases, as_it_was)
        self.assertEqual(row, ("old", (2, 3, 2)))

    def test_equal_calls_give_equal_results(self):
        row = ("new", (2, 3, 2))
        phases = [(-1, 2), (7, 3), (0, 1)]
        for call in (pattern, settled):
            self.assertEqual(call(row, phases), call(row, list(phases)))
