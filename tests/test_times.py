"""Promise [13]: how old the numbers can be, and how long they can take."""

import copy
import unittest
from fractions import Fraction

from lastcopied.rows import arrivals
from lastcopied.times import age_bounds, ages, sure_age, wait_bounds, waits
from tests.cases import each_case, phases_of
from tests.plain_walk import SMALL_ROWS, integer_starts, walked_ages, walked_waits
from tests.wrong_values import LONG, check_errors

ROW = ("new", (2, 3))
ZEROS = [(0, 1), (0, 1)]
TIES = ("new", "old")


def told(value):
    """A number as a fraction of the program."""
    return Fraction(value).as_integer_ratio()


def bounds(times, ticks):
    """The least and the greatest of the times, of which so many ticks are 1."""
    return told(Fraction(min(times), ticks)), told(Fraction(max(times), ticks))


class AgesAndWaits(unittest.TestCase):

    def test_told_by_hand(self):
        self.assertEqual(ages(("new", (2, 3))), (0, True, 2, False))
        self.assertEqual(ages(("old", (2, 3))), (0, False, 2, True))
        self.assertEqual(waits(("new", (2, 3))), (0, True, 3, False))
        self.assertEqual(waits(("old", (2, 3))), (0, False, 3, True))
        self.assertEqual(ages(("new", (5, 7, 11))), (0, True, 12, False))
        self.assertEqual(waits(("old", (5, 7, 11))), (0, False, 18, True))

    def test_beyond_the_limits_of_use(self):
        row = ("new", (59, 58, 57, 53, 47))
        self.assertEqual(ages(row), (0, True, 227, False))
        self.assertEqual(waits(row), (0, True, 215, False))
        self.assertEqual(ages(("old", (60,) * 5)), (0, False, 240, True))
        self.assertEqual(waits(("old", (1,) * 5)), (0, False, 4, True))

    def test_integers_and_booleans(self):
        for call in (ages, waits):
            for tie in TIES:
                kinds = [type(part) for part in call((tie, (2, 3, 4)))]
                self.assertEqual(kinds, [int, bool, int, bool])

    def test_errors_and_names(self):
        for call in (ages, waits):
            check_errors(self, call, {"row": ROW})
            self.assertEqual(call(row=("new", (1, 1))), (0, True, 1, False))


class AgeBounds(unittest.TestCase):

    def test_told_by_hand(self):
        # The reader's moments 0, 3, 6 .. take what the source has from 0, 2, 6 .. on, or from -2, 2, 4 ..
        self.assertEqual(age_bounds(("new", (2, 3)), ZEROS), ((0, 1), (1, 1)))
        self.assertEqual(age_bounds(("old", (2, 3)), ZEROS), ((1, 1), (2, 1)))
        phases = [(0, 1), (1, 3)]
        for tie in TIES:
            self.assertEqual(age_bounds((tie, (2, 3)), phases), ((1, 3), (4, 3)))
            self.assertEqual(age_bounds((tie, (2, 2)), phases), ((1, 3), (1, 3)))
            self.assertEqual(age_bounds((tie, (4, 6)), phases), ((1, 3), (7, 3)))

    def test_bounds_that_are_reached(self):
        # All copiers have moments at once: for "old" each one takes what the one ahead had longest.
        phases = [(-5, 7)] * 4
        self.assertEqual(age_bounds(("new", (2, 3, 5, 4)), phases)[0], (0, 1))
        self.assertEqual(age_bounds(("old", (3, 3, 3, 4)), phases)[1], (9, 1))
        self.assertEqual(wait_bounds(("new", (2, 3, 5, 4)), phases)[0], (0, 1))
        self.assertEqual(wait_bounds(("old", (4, 3, 3, 3)), phases)[1], (9, 1))

    def test_bounds_that_are_only_neared(self):
        behind = [(0, 1), (-1, LONG - 1), (-2, LONG - 2)]
        least, greatest = age_bounds(("new", (2, 2, 2)), behind)
        self.assertEqual(least, greatest)
        self.assertLess(Fraction(*greatest), 4)
        self.assertGreater(Fraction(*greatest), 4 - Fraction(1, 10 ** 29))
        ahead = [(0, 1), (1, LONG - 1), (2, LONG - 2)]
        least, greatest = wait_bounds(("old", (2, 2, 2)), ahead)
        self.assertEqual(least, greatest)
        self.assertGreater(Fraction(*least), 0)
        self.assertLess(Fraction(*least), Fraction(1, 10 ** 29))

    def test_against_a_plain_walk(self):
        for row, twelfths in each_case():
            fine = [12 * period for period in row[1]]
            wanted = bounds(walked_ages(row[0], fine, twelfths), 12)
            self.assertEqual(age_bounds(row, phases_of(twelfths, row[1])), wanted, (row, twelfths))

    def test_far_phases(self):
        for row, twelfths in each_case():
            near = phases_of(twelfths, row[1])
            far = list(near)
            # Whole periods more or less number the moments anew and change no time.
            for place, period in enumerate(row[1]):
                far[place] = told(Fraction(*near[place]) + (-1) ** place * period * 10 ** 28)
            for call in (age_bounds, wait_bounds, sure_age):
                self.assertEqual(call(row, far), call(row, near), (call, row, far))

    def test_many_arrivals(self):
        row = ("old", (20, 10, 1))
        self.assertEqual(age_bounds(row, [(0, 1)] * 3), ((11, 1), (30, 1)))
        phases = [(1, 3), (1, 2), (-1, 7)]
        fine = [42 * 7, 42 * 25, 42]
        self.assertEqual(age_bounds(("new", (7, 25, 1)), phases),
                         bounds(walked_ages("new", fine, [14, 21, -6]), 42))

    def test_errors_and_names(self):
        check_errors(self, age_bounds, {"row": ROW, "phases": ZEROS})
        self.assertEqual(age_bounds(phases=ZEROS, row=ROW), ((0, 1), (1, 1)))


class WaitBounds(unittest.TestCase):

    def test_told_by_hand(self):
        # The source's moments 0, 2, 4 .. come to the reader at 0, 3, 6 .., for "old" at 3, 3, 6 ..
        self.assertEqual(wait_bounds(("new", (2, 3)), ZEROS), ((0, 1), (2, 1)))
        self.assertEqual(wait_bounds(("old", (2, 3)), ZEROS), ((1, 1), (3, 1)))
        phases = [(0, 1), (1, 3)]
        for tie in TIES:
            self.assertEqual(wait_bounds((tie, (2, 3)), phases), ((1, 3), (7, 3)))
            self.assertEqual(wait_bounds((tie, (2, 2)), phases), ((1, 3), (1, 3)))
            # Of the numbers of the source the reader takes only each fourth one, or a greater one.
            self.assertEqual(wait_bounds((tie, (1, 4)), phases), ((1, 3), (10, 3)))
            self.assertEqual(wait_bounds((tie, (4, 1)), phases), ((1, 3), (1, 3)))

    def test_against_a_plain_walk(self):
        for row, twelfths in each_case():
            fine = [12 * period for period in row[1]]
            wanted = bounds(walked_waits(row[0], fine, twelfths), 12)
            self.assertEqual(wait_bounds(row, phases_of(twelfths, row[1])), wanted, (row, twelfths))

    def test_many_moments(self):
        phases = [(1, 3), (1, 2), (-1, 7)]
        fine = [42, 42 * 15, 42 * 8]
        self.assertEqual(wait_bounds(("old", (1, 15, 8)), phases),
                         bounds(walked_waits("old", fine, [14, 21, -6]), 42))

    def test_errors_and_names(self):
        check_errors(self, wait_bounds, {"row": ROW, "phases": ZEROS})
        self.assertEqual(wait_bounds(phases=ZEROS, row=ROW), ((0, 1), (2, 1)))


class SureAge(unittest.TestCase):

    def test_told_by_hand(self):
        for tie in TIES:
            self.assertIs(sure_age((tie, (2, 3)), ZEROS), False)
            self.assertIs(sure_age((tie, (2, 2)), [(0, 1), (5, 3)]), True)
            self.assertIs(sure_age((tie, (2, 4)), ZEROS), True)
            self.assertIs(sure_age((tie, (4, 2)), ZEROS), False)
            self.assertIs(sure_age((tie, (2, 1, 4)), [(1, 2), (2, 3), (0, 1)]), True)
        # With the tie "new" the reader takes at 0 and 3 the number of 0, with "old" those of -3 and 0.
        phases = [(0, 1), (0, 1), (0, 1)]
        self.assertIs(sure_age(("new", (3, 2, 3)), phases), False)
        self.assertIs(sure_age(("old", (3, 2, 3)), phases), True)
        self.assertIs(sure_age(("new", (2, 3, 6)), phases), True)
        self.assertIs(sure_age(("new", (4, 3, 6)), phases), False)

    def test_against_a_plain_walk(self):
        for row, twelfths in each_case():
            fine = [12 * period for period in row[1]]
            wanted = len(set(walked_ages(row[0], fine, twelfths))) == 1
            self.assertIs(sure_age(row, phases_of(twelfths, row[1])), wanted, (row, twelfths))

    def test_errors_and_names(self):
        check_errors(self, sure_age, {"row": ROW, "phases": ZEROS})
        self.assertIs(sure_age(phases=ZEROS, row=ROW), False)


class FactF5(unittest.TestCase):

    def test_all_phases_of_small_rows(self):
        # On a grid each copier but the reader brings all of its own times, so all sums come up.
        grid = 3
        for periods in SMALL_ROWS:
            if len(periods) > 3:
                continue
            fine = [grid * period for period in periods]
            for tie in TIES:
                found = [set(), set()]
                for starts in integer_starts(fine):
                    found[0].update(walked_ages(tie, fine, starts))
                    found[1].update(walked_waits(tie, fine, starts))
                open_ticks = len(periods) - 1
                for times, (least, low, most, high) in zip(found, (ages((tie, periods)),
                                                                   waits((tie, periods)))):
                    first = grid * least + (0 if low else open_ticks)
                    last = grid * most - (0 if high else open_ticks)
                    self.assertEqual(times, set(range(first, last + 1)), (tie, periods))


class Arguments(unittest.TestCase):

    def test_they_stay_as_they_were(self):
        row = ("old", (2, 3, 2))
        phases = [(-1, 2), (7, 3), (0, 1)]
        as_it_was = copy.deepcopy(phases)
        for call in (age_bounds, wait_bounds, sure_age):
            self.assertEqual(call(row, phases), call(row, list(phases)))
            self.assertEqual(phases, as_it_was)

    def test_the_age_is_the_time_since_the_source_began_with_the_number(self):
        for row, twelfths in each_case():
            phases = phases_of(twelfths, row[1])
            numbers = arrivals(row, phases, -30, 60)
            found = [Fraction(*phases[-1]) + (k - 30) * row[1][-1]
                     - Fraction(*phases[0]) - number * row[1][0] for k, number in enumerate(numbers)]
            self.assertEqual(age_bounds(row, phases), (told(min(found)), told(max(found))))
