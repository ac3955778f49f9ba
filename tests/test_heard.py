"""Promise [11]: what a heard stretch tells about the pattern of a row and the steps to come."""

import copy
import unittest
from itertools import count

from lastcopied.errors import InvalidRow, InvalidStretch, Unheard
from lastcopied.heard import doubt, next_steps, patterns_with, sure_steps, telling
from lastcopied.patterns import patterns
from tests.plain_walk import SMALL_ROWS
from tests.wrong_values import LONG, NO_ROWS, NO_STRETCHES, WRONG, check_errors, check_raises

# Its patterns are (0, 2) and (1,).
ROW = ("new", (3, 2, 3))
# Its patterns are (0, 0, 3), (0, 1, 2) and (0, 2, 1).
THREE = ("old", (2, 3, 2, 3, 2))
# 50, 13 and 35 patterns, of up to 45, 56 and 60 steps.
WIDE = (("new", (45, 1, 8, 15, 8)), ("old", (30, 7, 8, 15)), ("new", (20, 7, 15, 1, 7)))
TIES = ("new", "old")


def small_rows():
    """Small rows, the tie being now this one, now that one."""
    return [(TIES[at % 2], periods) for at, periods in enumerate(SMALL_ROWS)]


def has(pattern, stretch):
    """Whether the stretch stands somewhere in the endless repetition of the pattern."""
    return any(
        all(pattern[(at + k) % len(pattern)] == step for k, step in enumerate(stretch))
        for at in range(len(pattern))
    )


def cut(pattern, at, size):
    """The stretch of so many steps that the pattern has from one of its places on."""
    return [pattern[(at + k) % len(pattern)] for k in range(size)]


def some_stretches(known):
    """Stretches that some patterns have, those with one step changed, and others."""
    for pattern in known:
        for at in range(0, len(pattern), 1 + len(pattern) // 4):
            for size in (0, 1, 2, 3, len(pattern), 2 * len(pattern) + 1):
                stretch = cut(pattern, at, size)
                yield stretch
                for place in {0, size // 2, size - 1}:
                    for step in (0, 1, 2, 7):
                        yield stretch[:place] + [step] + stretch[place + 1:]


def followed(known, stretch):
    """All steps that can follow, tried one by one."""
    most = max(step for pattern in known for step in pattern)
    return [step for step in range(most + 2)
            if any(has(pattern, stretch + [step]) for pattern in known)]


def surely_followed(known, stretch):
    """The steps up to the first doubt and those that can follow then, tried one by one.

    Behind more steps than two patterns of this length can have in common there is no doubt.
    """
    steps = []
    bound = 2 * max(map(len, known)) + 2
    following = followed(known, stretch)
    while len(following) == 1 and len(steps) < bound:
        steps.append(following[0])
        following = followed(known, stretch + steps)
    if len(following) > 1:
        return steps, following
    size = next(size for size in count(1)
                if all(steps[at] == steps[at + size] for at in range(bound - size)))
    return steps[:size], []


class PatternsWith(unittest.TestCase):

    def test_told_by_hand(self):
        for tie in TIES:
            row = (tie, (3, 2, 3))
            self.assertEqual(patterns_with(row, [0]), [(0, 2)])
            self.assertEqual(patterns_with(row, [2]), [(0, 2)])
            self.assertEqual(patterns_with(row, [1]), [(1,)])
            self.assertEqual(patterns_with(row, [2, 0, 2]), [(0, 2)])
            self.assertEqual(patterns_with(row, [1, 1, 1, 1]), [(1,)])
            row = (tie, (2, 3, 2))
            self.assertEqual(patterns_with(row, [1]), [(0, 1, 2), (0, 2, 1)])
            self.assertEqual(patterns_with(row, [2, 0]), [(0, 1, 2)])
            self.assertEqual(patterns_with(row, [1, 0]), [(0, 2, 1)])

    def test_the_empty_stretch(self):
        for row in small_rows():
            self.assertEqual(patterns_with(row, []), patterns(row), row)

    def test_stretches_that_no_pattern_has(self):
        for stretch in ([3], [0, 0], [2, 2], [0, 1], [1, 1, 2], [0, 2, 2], [LONG], [1] * 299 + [0]):
            self.assertEqual(patterns_with(ROW, stretch), [], stretch)

    def test_going_round_up_to_300_steps(self):
        self.assertEqual(patterns_with(ROW, [0, 2] * 150), [(0, 2)])
        self.assertEqual(patterns_with(ROW, [2, 0] * 149 + [2]), [(0, 2)])
        self.assertEqual(patterns_with(ROW, [1] * 300), [(1,)])
        for row in WIDE:
            for pattern in patterns(row)[::3]:
                stretch = cut(pattern, 5, 300)
                self.assertEqual(patterns_with(row, stretch), [pattern])
                for place in (0, 150, 299):
                    stretch[place] += 1
                    self.assertEqual(patterns_with(row, stretch), [])
                    stretch[place] -= 1

    def test_against_plain_looks(self):
        for row in small_rows():
            known = patterns(row)
            for stretch in some_stretches(known):
                wanted = [pattern for pattern in known if has(pattern, stretch)]
                self.assertEqual(patterns_with(row, stretch), wanted, (row, stretch))

    def test_errors_and_names(self):
        check_errors(self, patterns_with, {"row": ROW, "stretch": [0]})
        self.assertEqual(patterns_with(stretch=[1], row=ROW), [(1,)])

    def test_a_changed_list_changes_no_later_answer(self):
        patterns_with(ROW, []).clear()
        self.assertEqual(patterns_with(ROW, []), [(0, 2), (1,)])


class NextSteps(unittest.TestCase):

    def test_told_by_hand(self):
        for tie in TIES:
            row = (tie, (2, 3, 2, 3, 2))
            self.assertEqual(next_steps(row, []), [0, 1, 2, 3])
            self.assertEqual(next_steps(row, [0]), [0, 1, 2, 3])
            self.assertEqual(next_steps(row, [0, 0]), [3])
            self.assertEqual(next_steps(row, [1]), [0, 2])
            self.assertEqual(next_steps(row, [2]), [0, 1])
            self.assertEqual(next_steps(row, [3]), [0])
            self.assertEqual(next_steps(row, [2, 0]), [1])
            self.assertEqual(next_steps((tie, (2, 3)), []), [1, 2])
            self.assertEqual(next_steps((tie, (1, 60)), []), [60])

    def test_stretches_that_no_pattern_has(self):
        for stretch in ([4], [0, 0, 0], [1, 1], [2, 0, 0], [LONG]):
            self.assertEqual(next_steps(THREE, stretch), [], stretch)

    def test_going_round_up_to_300_steps(self):
        for row in WIDE:
            for pattern in patterns(row)[::3]:
                stretch = cut(pattern, 1, 300)
                self.assertEqual(next_steps(row, stretch), [cut(pattern, 301, 1)[0]])
                self.assertEqual(next_steps(row, [9] + stretch[1:]), [])

    def test_against_plain_tries(self):
        for row in small_rows():
            known = patterns(row)
            for stretch in some_stretches(known):
                self.assertEqual(next_steps(row, stretch), followed(known, stretch), (row, stretch))

    def test_errors_and_names(self):
        check_errors(self, next_steps, {"row": ROW, "stretch": [0]})
        self.assertEqual(next_steps(stretch=[0], row=ROW), [2])

    def test_a_changed_list_changes_no_later_answer(self):
        next_steps(ROW, []).append(7)
        self.assertEqual(next_steps(ROW, []), [0, 1, 2])


class SureSteps(unittest.TestCase):

    def test_told_by_hand(self):
        for tie in TIES:
            row = (tie, (2, 3, 2, 3, 2))
            self.assertEqual(sure_steps(row, []), ([], [0, 1, 2, 3]))
            self.assertEqual(sure_steps(row, [3]), ([0, 0, 3], []))
            self.assertEqual(sure_steps(row, [3, 0]), ([0, 3, 0], []))
            self.assertEqual(sure_steps(row, [1]), ([], [0, 2]))
            self.assertEqual(sure_steps(row, [1, 0]), ([2, 1, 0], []))
            self.assertEqual(sure_steps(row, [1, 2]), ([0, 1, 2], []))
            self.assertEqual(sure_steps((tie, (3, 2, 3)), [1]), ([1], []))
            self.assertEqual(sure_steps((tie, (3, 2, 3)), [2]), ([0, 2], []))

    def test_a_row_with_one_pattern(self):
        # The place in the pattern can be in doubt though the pattern is not.
        self.assertEqual(sure_steps(("new", (2, 3)), []), ([], [1, 2]))
        self.assertEqual(sure_steps(("new", (2, 3)), [1]), ([2, 1], []))
        self.assertEqual(sure_steps(("new", (4, 6, 3)), []), ([], [0, 1, 2]))
        self.assertEqual(sure_steps(("new", (4, 6, 3)), [0]), ([], [1, 2]))
        self.assertEqual(sure_steps(("old", (1, 60)), []), ([60], []))
        self.assertEqual(sure_steps(("old", (1, 60)), [60] * 300), ([60], []))

    def test_sure_steps_ahead_of_the_first_doubt(self):
        # The pattern is (0, 0, 1, 0, 1): behind 1 comes 0, and then 0 or 1.
        self.assertEqual(patterns(("old", (5, 2))), [(0, 0, 1, 0, 1)])
        self.assertEqual(sure_steps(("old", (5, 2)), [1]), ([0], [0, 1]))
        self.assertEqual(sure_steps(("old", (5, 2)), [0]), ([], [0, 1]))
        self.assertEqual(sure_steps(("old", (5, 2)), [0, 1]), ([0], [0, 1]))
        self.assertEqual(sure_steps(("old", (5, 2)), [0, 1, 0]), ([], [0, 1]))
        self.assertEqual(sure_steps(("old", (5, 2)), [0, 0]), ([1, 0, 1, 0, 0], []))

    def test_against_plain_tries(self):
        for row in small_rows():
            known = patterns(row)
            for stretch in some_stretches(known):
                if any(has(pattern, stretch) for pattern in known):
                    wanted = surely_followed(known, stretch)
                    self.assertEqual(sure_steps(row, stretch), wanted, (row, stretch))

    def test_long_runs_ahead_of_the_first_doubt(self):
        longest = 0
        for row in WIDE:
            known = patterns(row)
            for stretch in [cut(pattern, 3, size) for pattern in known[::7] for size in (4, 9, 14)]:
                steps, rest = sure_steps(row, stretch)
                for at, step in enumerate(steps):
                    self.assertEqual(next_steps(row, stretch + steps[:at]), [step])
                if rest:
                    self.assertEqual(next_steps(row, stretch + steps), rest)
                    self.assertGreater(len(rest), 1)
                    longest = max(longest, len(steps))
        self.assertGreater(longest, 4)

    def test_one_round_behind_300_steps(self):
        for row in WIDE:
            for pattern in patterns(row):
                wanted = cut(pattern, 2 + 300, len(pattern))
                self.assertEqual(sure_steps(row, cut(pattern, 2, 300)), (wanted, []))

    def test_errors_and_names(self):
        check_errors(self, sure_steps, {"row": ROW, "stretch": [0]})
        self.assertEqual(sure_steps(stretch=[0], row=ROW), ([2, 0], []))

    def test_unheard(self):
        for stretch in ([3], [0, 0], [1, 2], [0, 2] * 149 + [0, 0], [LONG]):
            check_raises(self, Unheard, sure_steps, {"row": ROW, "stretch": stretch})
        for row in NO_ROWS:
            check_raises(self, InvalidRow, sure_steps, {"row": row, "stretch": [3]})
        check_raises(self, InvalidStretch, sure_steps, {"row": ROW, "stretch": [3, -1]})

    def test_changed_lists_change_no_later_answer(self):
        for stretch in ([], [0]):
            wanted = copy.deepcopy(sure_steps(ROW, stretch))
            for part in sure_steps(ROW, stretch):
                part.append(9)
            self.assertEqual(sure_steps(ROW, stretch), wanted)
        self.assertIsNot(*sure_steps(ROW, [1]))


class Telling(unittest.TestCase):

    def test_told_by_hand(self):
        for tie in TIES:
            self.assertEqual(telling((tie, (3, 2, 3)), (0, 2)), [0])
            self.assertEqual(telling((tie, (3, 2, 3)), (1,)), [1])
            self.assertEqual(telling((tie, (2, 3, 2)), (0, 1, 2)), [0, 1])
            self.assertEqual(telling((tie, (2, 3, 2)), (0, 2, 1)), [0, 2])
            row = (tie, (2, 3, 2, 3, 2))
            # [3] has less steps than [0, 0], though that one is less as a list.
            self.assertEqual(telling(row, (0, 0, 3)), [3])
            self.assertEqual(telling(row, (0, 1, 2)), [0, 1])
            self.assertEqual(telling(row, (0, 2, 1)), [0, 2])

    def test_a_row_with_one_pattern(self):
        for periods in ((2, 3), (1, 60), (60, 1), (4, 6, 3), (20, 12, 30)):
            for tie in TIES:
                row = (tie, periods)
                self.assertEqual(telling(row, patterns(row)[0]), [])

    def test_against_plain_looks(self):
        for row in (*small_rows(), *WIDE):
            known = patterns(row)
            for pattern in known[::1 + len(known) // 5]:
                found = telling(row, pattern)
                self.assertEqual([one for one in known if has(one, found)], [pattern])
                for size in range(len(found) + 1):
                    for at in range(len(pattern)):
                        stretch = cut(pattern, at, size)
                        if size < len(found) or stretch < found:
                            self.assertTrue(any(has(one, stretch) for one in known if one != pattern))

    def test_errors_and_names(self):
        check_errors(self, telling, {"row": ROW, "pattern": (1,)})
        self.assertEqual(telling(pattern=(1,), row=ROW), [1])

    def test_a_changed_list_changes_no_later_answer(self):
        telling(ROW, (1,)).append(5)
        self.assertEqual(telling(ROW, (1,)), [1])


class Doubt(unittest.TestCase):

    def test_told_by_hand(self):
        for tie in TIES:
            self.assertEqual(doubt((tie, (3, 2, 3))), 0)
            self.assertEqual(doubt((tie, (2, 3, 2))), 1)
            self.assertEqual(doubt((tie, (2, 3, 2, 3, 2))), 1)

    def test_a_row_with_one_pattern(self):
        for periods in ((2, 3), (1, 60), (60, 1), (4, 6, 3), (20, 12, 30), (1, 1, 1, 1, 1)):
            for tie in TIES:
                self.assertEqual(doubt((tie, periods)), -1)

    def test_against_plain_looks(self):
        for row in (*small_rows(), *WIDE):
            known = patterns(row)
            if len(known) > 1:
                most = doubt(row)
                for size in (most, most + 1):
                    owners = {}
                    for pattern in known:
                        for at in range(len(pattern)):
                            owners.setdefault(tuple(cut(pattern, at, size)), set()).add(pattern)
                    shared = any(len(owner) > 1 for owner in owners.values())
                    self.assertIs(shared, size == most, (row, size))

    def test_errors_and_names(self):
        check_errors(self, doubt, {"row": ROW})
        self.assertEqual(doubt(row=("old", (2, 3, 2))), 1)


class Arguments(unittest.TestCase):

    def test_they_stay_as_they_were(self):
        stretch = [2, 0, 2]
        for call in (patterns_with, next_steps, sure_steps):
            call(ROW, stretch)
            self.assertEqual(stretch, [2, 0, 2])
            self.assertEqual(call(ROW, stretch), call(ROW, list(stretch)))

    def test_many_wrong_stretches_are_tried(self):
        self.assertIs(WRONG["stretch"][1], NO_STRETCHES)
        self.assertNotIn([], NO_STRETCHES)
