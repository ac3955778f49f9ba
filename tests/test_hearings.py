"""Promise [16]: hearings of an unknown pattern, blocks of trying, and hearings that count and are capped."""

import copy
import unittest
from random import Random

from lastcopied.errors import (
    CopyError, Full, InvalidNumber, InvalidRow, InvalidStep, InvalidStretch, NothingToUndo, Unheard,
)
from lastcopied.heard import next_steps, patterns_with, sure_steps
from lastcopied.hearings import CappedCountingHearing, CappedHearing, CountingHearing, Hearing
from lastcopied.patterns import patterns
from tests.wrong_values import LONG, NO_MOSTS, NO_ROWS, NO_STRETCHES, check_errors

# Its patterns are (0, 2) and (1,).
ROW = ("new", (3, 2, 3))
# Its patterns are (0, 0, 3), (0, 1, 2) and (0, 2, 1).
THREE = ("old", (2, 3, 2, 3, 2))
ROWS = [ROW, THREE, ("new", (2, 3)), ("old", (2, 3, 2)), ("new", (5, 3, 4)), ("old", (4, 3, 2, 4))]


def all_kinds(row, most=300):
    """A hearing of each class; no test here hears so many steps as most by itself."""
    return [Hearing(row), CountingHearing(row), CappedHearing(row, most),
            CappedCountingHearing(row, most)]


class Raises(unittest.TestCase):

    def raises(self, wanted, call, *arguments):
        """The call raises exactly this error."""
        with self.assertRaises(CopyError) as caught:
            call(*arguments)
        self.assertIs(type(caught.exception), wanted, arguments)


class TheConstructors(Raises):

    def test_a_new_hearing(self):
        for row in ROWS:
            for hearing in all_kinds(row):
                self.assertEqual(hearing.row, row)
                self.assertEqual(hearing.heard, [])
                self.assertEqual(hearing.left, patterns(row))
                self.assertEqual(hearing.following, next_steps(row, []))
                self.assertEqual(hearing.sure(), sure_steps(row, []))

    def test_a_row_beyond_the_limits_of_use(self):
        row = ("old", (60, 59, 58, 57, 53))
        for hearing in all_kinds(row):
            self.assertEqual((hearing.row, hearing.heard), (row, []))

    def test_names(self):
        self.assertEqual(Hearing(row=ROW).row, ROW)
        self.assertEqual(CountingHearing(row=ROW).calls, 0)
        self.assertEqual(CappedHearing(most=3, row=ROW).most, 3)
        both = CappedCountingHearing(most=0, row=ROW)
        self.assertEqual((both.row, both.most, both.calls), (ROW, 0, 0))

    def test_errors(self):
        check_errors(self, Hearing, {"row": ROW})
        check_errors(self, CountingHearing, {"row": ROW})
        check_errors(self, CappedHearing, {"row": ROW, "most": 5})
        check_errors(self, CappedCountingHearing, {"row": ROW, "most": 5})
        for most in NO_MOSTS:
            self.raises(InvalidNumber, CappedHearing, ROW, most)
            self.raises(InvalidNumber, CappedCountingHearing, ROW, most)
            self.raises(InvalidRow, CappedHearing, NO_ROWS[0], most)

    def test_which_stands_under_which(self):
        self.assertTrue(issubclass(CountingHearing, Hearing))
        self.assertTrue(issubclass(CappedHearing, Hearing))
        self.assertTrue(issubclass(CappedCountingHearing, CountingHearing))
        self.assertTrue(issubclass(CappedCountingHearing, CappedHearing))
        self.assertFalse(issubclass(CappedHearing, CountingHearing))
        self.assertFalse(issubclass(CountingHearing, CappedHearing))


class Hear(Raises):

    def test_told_by_hand(self):
        for hearing in all_kinds(ROW):
            self.assertEqual(hearing.hear(2), 1)
            self.assertEqual((hearing.heard, hearing.left), ([2], [(0, 2)]))
            self.assertEqual((hearing.following, hearing.sure()), ([0], ([0, 2], [])))
            self.assertEqual(hearing.hear(step=0), 1)
            self.assertEqual((hearing.heard, hearing.following), ([2, 0], [2]))
        for hearing in all_kinds(THREE):
            self.assertEqual([hearing.hear(step) for step in (2, 1, 0)], [2, 1, 1])
            self.assertEqual(hearing.left, [(0, 2, 1)])
            self.assertEqual(hearing.sure(), ([2, 1, 0], []))

    def test_it_says_what_the_functions_say(self):
        for row in ROWS:
            for pattern in patterns(row):
                for hearing in all_kinds(row):
                    stretch = []
                    for step in pattern + pattern:
                        stretch.append(step)
                        self.assertEqual(hearing.hear(step), len(patterns_with(row, stretch)))
                        self.assertEqual(hearing.heard, stretch)
                        self.assertEqual(hearing.left, patterns_with(row, stretch))
                        self.assertEqual(hearing.following, next_steps(row, stretch))
                        self.assertEqual(hearing.sure(), sure_steps(row, stretch))

    def test_no_steps(self):
        for hearing in all_kinds(ROW) + [CappedHearing(ROW, 0), CappedCountingHearing(ROW, 0)]:
            check_errors(self, hearing.hear, {"step": 1})
            self.assertEqual(hearing.heard, [])

    def test_unheard(self):
        for hearing in all_kinds(ROW):
            self.raises(Unheard, hearing.hear, 3)
            self.raises(Unheard, hearing.hear, LONG)
            hearing.hear(2)
            for step in (1, 2, 3, LONG):
                self.raises(Unheard, hearing.hear, step)
            self.assertEqual((hearing.heard, hearing.left), ([2], [(0, 2)]))
            self.assertEqual(getattr(hearing, "calls", 1), 1)
            self.assertEqual(hearing.hear(0), 1)

    def test_beyond_300_steps(self):
        hearing = Hearing(("new", (2, 3)))
        self.assertEqual({hearing.hear(1 + at % 2) for at in range(310)}, {1})
        self.assertEqual(len(hearing.heard), 310)

    def test_returned_lists_are_new(self):
        for hearing in all_kinds(ROW):
            hearing.hear(1)
            hearing.heard.append(7)
            hearing.left.clear()
            hearing.following.clear()
            hearing.sure()[0].clear()
            self.assertEqual((hearing.heard, hearing.left), ([1], [(1,)]))
            self.assertEqual((hearing.following, hearing.sure()), ([1], ([1], [])))

    def test_two_hearings_are_independent(self):
        for one, other in zip(all_kinds(ROW), all_kinds(ROW)):
            one.hear(2)
            with one.trying():
                one.hear(0)
                self.raises(NothingToUndo, other.undo)
                self.assertEqual((other.heard, len(other.left)), ([], 2))


class Undo(Raises):

    def test_the_last_step_comes_first(self):
        for hearing in all_kinds(THREE):
            for step in (3, 0, 0, 3):
                hearing.hear(step)
            self.assertEqual([hearing.undo(), hearing.undo()], [3, 0])
            self.assertEqual((hearing.heard, hearing.left), ([3, 0], [(0, 0, 3)]))
            self.assertEqual([hearing.undo(), hearing.undo()], [0, 3])
            self.assertEqual((hearing.heard, hearing.left), ([], patterns(THREE)))
            self.raises(NothingToUndo, hearing.undo)
            self.assertEqual(hearing.hear(1), 2)

    def test_nothing_to_undo(self):
        for hearing in all_kinds(ROW) + [CappedHearing(ROW, 0)]:
            self.raises(NothingToUndo, hearing.undo)
            self.assertEqual(hearing.heard, [])


class Blocks(Raises):

    def test_with(self):
        for hearing in all_kinds(THREE):
            hearing.hear(0)
            with hearing.trying() as held:
                self.assertIs(held, hearing)
                hearing.hear(2)
                self.assertEqual(held.hear(1), 1)
                self.assertEqual(held.heard, [0, 2, 1])
            self.assertEqual((hearing.heard, hearing.left), ([0], patterns(THREE)))
            self.assertEqual(hearing.undo(), 0)

    def test_by_hand(self):
        for hearing in all_kinds(THREE):
            hearing.hear(0)
            block = hearing.trying()
            self.assertIs(block.begin(), hearing)
            hearing.hear(2)
            self.assertIs(block.finish(), None)
            self.assertEqual(hearing.heard, [0])
            self.assertEqual(hearing.undo(), 0)

    def test_what_counts_is_when_it_begins(self):
        hearing = Hearing(THREE)
        block = hearing.trying()
        hearing.hear(0)
        with block as held:
            held.hear(2)
            self.raises(NothingToUndo, lambda: (held.undo(), held.undo()))
        self.assertEqual(hearing.heard, [0])
        block = hearing.trying()
        hearing.undo()
        block.begin()
        hearing.hear(1)
        block.finish()
        self.assertEqual(hearing.heard, [])

    def test_undo_inside(self):
        for hearing in all_kinds(THREE):
            hearing.hear(0)
            hearing.hear(2)
            with hearing.trying():
                self.raises(NothingToUndo, hearing.undo)
                self.assertEqual(hearing.heard, [0, 2])
                hearing.hear(1)
                self.assertEqual(hearing.undo(), 1)
                self.raises(NothingToUndo, hearing.undo)
                hearing.hear(1)
                hearing.hear(0)
            self.assertEqual(hearing.heard, [0, 2])
            self.assertEqual([hearing.undo(), hearing.undo()], [2, 0])
            self.raises(NothingToUndo, hearing.undo)

    def test_within_one_another(self):
        for hearing in all_kinds(THREE):
            hearing.hear(0)
            with hearing.trying():
                hearing.hear(2)
                with hearing.trying():
                    hearing.hear(1)
                    block = hearing.trying()
                    block.begin()
                    self.raises(NothingToUndo, hearing.undo)
                    hearing.hear(0)
                    self.assertEqual(hearing.heard, [0, 2, 1, 0])
                    block.finish()
                    self.assertEqual(hearing.heard, [0, 2, 1])
                    self.assertEqual(hearing.undo(), 1)
                    self.raises(NothingToUndo, hearing.undo)
                self.assertEqual(hearing.heard, [0, 2])
                self.assertEqual(hearing.undo(), 2)
                self.raises(NothingToUndo, hearing.undo)
                with hearing.trying():
                    self.raises(NothingToUndo, hearing.undo)
            self.assertEqual(hearing.heard, [0])

    def test_left_by_an_error(self):
        for hearing in all_kinds(THREE):
            hearing.hear(0)
            for wanted, step in ((Unheard, 9), (InvalidStep, -1)):
                with self.assertRaises(wanted):
                    with hearing.trying():
                        hearing.hear(2)
                        with hearing.trying():
                            hearing.hear(1)
                            hearing.hear(step)
                self.assertEqual(hearing.heard, [0])
            with self.assertRaises(KeyError):
                with hearing.trying():
                    hearing.hear(2)
                    raise KeyError(2)
            with self.assertRaises(NothingToUndo):
                with hearing.trying():
                    hearing.undo()
            self.assertEqual(hearing.heard, [0])
            self.assertEqual(hearing.undo(), 0)

    def test_left_early(self):
        def first_left(hearing):
            with hearing.trying():
                return hearing.hear(2)

        hearing = Hearing(ROW)
        self.assertEqual(first_left(hearing), 1)
        self.assertEqual(hearing.heard, [])

    def test_two_in_one_statement(self):
        hearing = Hearing(THREE)
        with hearing.trying() as one, hearing.trying() as other:
            one.hear(3)
            self.assertIs(one, other)
        self.assertEqual(hearing.heard, [])


class Twins(Raises):

    def test_same_class_and_steps(self):
        for hearing in all_kinds(THREE, 7):
            hearing.hear(0)
            hearing.hear(2)
            twin = hearing.twin()
            self.assertIs(type(twin), type(hearing))
            self.assertIsNot(twin, hearing)
            self.assertEqual((twin.row, twin.heard, twin.left), (THREE, [0, 2], hearing.left))
            for name in ("most", "calls"):
                self.assertEqual(getattr(twin, name, None), getattr(hearing, name, None))

    def test_independent(self):
        for hearing in all_kinds(THREE):
            hearing.hear(0)
            twin = hearing.twin()
            twin.hear(3)
            self.assertEqual((hearing.heard, twin.heard), ([0], [0, 3]))
            hearing.undo()
            self.assertEqual((hearing.heard, twin.heard), ([], [0, 3]))
            self.assertEqual([twin.undo(), twin.undo()], [3, 0])
            self.raises(NothingToUndo, twin.undo)
            self.assertEqual(getattr(hearing, "calls", 1), 1)
            self.assertEqual(getattr(twin, "calls", 2), 2)

    def test_outside_of_all_blocks(self):
        for hearing in all_kinds(THREE):
            hearing.hear(0)
            with hearing.trying():
                hearing.hear(2)
                with hearing.trying():
                    twin = hearing.twin()
                    self.raises(NothingToUndo, hearing.undo)
                    self.assertEqual([twin.undo(), twin.undo()], [2, 0])
                    twin.hear(3)
                self.assertEqual(hearing.heard, [0, 2])
            self.assertEqual((hearing.heard, twin.heard), ([0], [3]))
            with twin.trying():
                twin.hear(0)
                hearing.undo()
            self.assertEqual((hearing.heard, twin.heard), ([], [3]))

    def test_calls_and_most(self):
        hearing = CappedCountingHearing(THREE, 2)
        hearing.hear(0)
        hearing.undo()
        hearing.tried([0, 2])
        self.assertEqual(hearing.calls, 3)
        twin = hearing.twin()
        self.assertEqual((twin.calls, twin.most, twin.heard), (3, 2, []))
        twin.hear(0)
        twin.hear(2)
        self.raises(Full, twin.hear, 1)
        self.assertEqual((twin.calls, hearing.calls), (5, 3))
        twin = CappedHearing(ROW, 1).twin()
        twin.hear(1)
        self.raises(Full, twin.twin().hear, 1)


class Tried(Raises):

    def test_told_by_hand(self):
        for hearing in all_kinds(THREE):
            self.assertEqual(hearing.tried([2, 1, 0, 2]), [2, 1, 1, 1])
            self.assertEqual(hearing.heard, [])
            hearing.hear(0)
            self.assertEqual(hearing.tried(steps=[0, 3, 0]), [1, 1, 1])
            self.assertEqual(hearing.tried([]), [])
            self.assertEqual(hearing.heard, [0])
            with hearing.trying():
                hearing.hear(3)
                self.assertEqual(hearing.tried([0, 0]), [1, 1])
                self.assertEqual(hearing.undo(), 3)
                self.raises(NothingToUndo, hearing.undo)
            self.assertEqual(hearing.undo(), 0)

    def test_no_stretch(self):
        for hearing in all_kinds(ROW) + [CappedHearing(ROW, 0)]:
            for steps in NO_STRETCHES:
                self.raises(InvalidStretch, hearing.tried, steps)
            self.assertEqual((hearing.heard, getattr(hearing, "calls", 0)), ([], 0))
        check_errors(self, Hearing(ROW).tried, {"steps": [1]})

    def test_unheard(self):
        for hearing in all_kinds(ROW):
            hearing.hear(2)
            for steps in ([2], [1], [0, 0], [0, 2, 1], [0, 2, 0, 2, 0, 1], [LONG], [1] + [0] * 400):
                self.raises(Unheard, hearing.tried, steps)
                self.assertEqual((hearing.heard, getattr(hearing, "calls", 1)), ([2], 1))

    def test_full_or_unheard_at_the_first_step_that_cannot_be_heard(self):
        for kind in (CappedHearing, CappedCountingHearing):
            hearing = kind(ROW, 3)
            hearing.hear(2)
            for wanted, steps in (
                (Full, [0, 2, 0]), (Full, [0, 2, 1]), (Full, [0, 2, 9, 9]), (Full, [0, 2, 0, 2]),
                (Unheard, [0, 1]), (Unheard, [0, 1, 0, 0]), (Unheard, [1]), (Unheard, [2, 0, 2, 0]),
            ):
                self.raises(wanted, hearing.tried, steps)
                self.assertEqual((hearing.heard, getattr(hearing, "calls", 1)), ([2], 1))
            self.assertEqual(hearing.tried([0, 2]), [1, 1])
            with hearing.trying():
                hearing.hear(0)
                hearing.hear(2)
                self.assertEqual(hearing.tried([]), [])
                self.raises(Full, hearing.tried, [9])
                self.raises(InvalidStretch, hearing.tried, [0, -1])

    def test_what_is_passed_stays_and_what_is_returned_is_new(self):
        for hearing in all_kinds(ROW, 4):
            steps = [0, 2, 0]
            told = copy.copy(steps)
            hearing.tried(steps).clear()
            self.assertEqual(steps, told)
            self.assertEqual(hearing.tried(steps), [1, 1, 1])
            self.assertIsNot(hearing.tried([]), hearing.tried([]))

    def test_as_long_as_may_be(self):
        hearing = CappedCountingHearing(("new", (2, 3)), 300)
        self.assertEqual(hearing.tried([1, 2] * 150), [1] * 300)
        self.raises(Full, hearing.tried, [1, 2] * 150 + [1])
        self.assertEqual((hearing.calls, hearing.heard), (300, []))


class Counting(Raises):

    def test_all_steps_that_were_heard(self):
        for hearing in (CountingHearing(ROW), CappedCountingHearing(ROW, 2)):
            self.assertEqual(hearing.calls, 0)
            hearing.hear(2)
            hearing.undo()
            self.assertEqual(hearing.calls, 1)
            with hearing.trying():
                hearing.hear(0)
                hearing.undo()
                hearing.hear(1)
                self.assertEqual(hearing.calls, 3)
            self.assertEqual((hearing.calls, hearing.heard), (3, []))
            hearing.tried([0, 2])
            self.assertEqual(hearing.calls, 5)
            with self.assertRaises(Unheard):
                with hearing.trying():
                    hearing.hear(1)
                    hearing.hear(0)
            self.assertEqual((hearing.calls, hearing.heard), (6, []))

    def test_refused_ones_do_not_count(self):
        hearing = CappedCountingHearing(ROW, 1)
        for wanted, call, value in ((InvalidStep, hearing.hear, True), (Unheard, hearing.hear, 7),
                                    (InvalidStretch, hearing.tried, [True]),
                                    (Unheard, hearing.tried, [7]), (Full, hearing.tried, [1, 1])):
            self.raises(wanted, call, value)
            self.assertEqual(hearing.calls, 0)
        hearing.hear(1)
        self.raises(Full, hearing.hear, 1)
        self.assertEqual(hearing.calls, 1)


class Capped(Raises):

    def test_a_cap_of_0(self):
        for hearing in (CappedHearing(ROW, 0), CappedCountingHearing(ROW, 0)):
            self.assertEqual(hearing.most, 0)
            for step in (0, 1, 9, LONG):
                self.raises(Full, hearing.hear, step)
                self.raises(Full, hearing.tried, [step])
            self.raises(InvalidStep, hearing.hear, -1)
            self.raises(InvalidStretch, hearing.tried, [-1])
            self.assertEqual((hearing.tried([]), hearing.heard), ([], []))
            self.assertEqual((hearing.left, hearing.following), (patterns(ROW), [0, 1, 2]))

    def test_a_cap_of_300(self):
        for hearing in (CappedHearing(ROW, 300), CappedCountingHearing(ROW, 300)):
            for _ in range(300):
                self.assertEqual(hearing.hear(1), 1)
            self.raises(Full, hearing.hear, 1)
            self.raises(Full, hearing.hear, 0)
            self.assertEqual((len(hearing.heard), hearing.following), (300, [1]))
            hearing.undo()
            self.raises(Unheard, hearing.hear, 0)
            self.assertEqual(hearing.hear(1), 1)

    def test_behind_invalid_step_and_ahead_of_unheard(self):
        for hearing in (CappedHearing(ROW, 1), CappedCountingHearing(ROW, 1)):
            self.raises(Unheard, hearing.hear, 9)
            hearing.hear(2)
            self.raises(Full, hearing.hear, 9)
            self.raises(Full, hearing.hear, 0)
            self.raises(InvalidStep, hearing.hear, None)
            self.assertEqual((hearing.heard, hearing.undo()), ([2], 2))
            self.assertEqual(hearing.hear(1), 1)

    def test_steps_ahead_of_a_block_count(self):
        hearing = CappedHearing(ROW, 2)
        hearing.hear(2)
        with hearing.trying():
            hearing.hear(0)
            self.raises(Full, hearing.hear, 2)
        hearing.hear(0)
        self.raises(Full, hearing.hear, 2)


class Plain:
    """A hearing made anew, that keeps all blocks as copies of what was."""

    def __init__(self, row, most):
        self.row = row
        self.most = most
        self.steps = []
        self.inside = 0
        self.outer = []
        self.calls = 0

    def hear(self, step):
        if self.most is not None and len(self.steps) >= self.most:
            return Full
        left = len(patterns_with(self.row, self.steps + [step]))
        if left == 0:
            return Unheard
        self.steps.append(step)
        self.inside += 1
        self.calls += 1
        return left

    def undo(self):
        if self.inside == 0:
            return NothingToUndo
        self.inside -= 1
        return self.steps.pop()

    def begin(self):
        self.outer.append((list(self.steps), self.inside))
        self.inside = 0

    def finish(self):
        self.steps, self.inside = self.outer.pop()

    def tried(self, steps):
        calls = self.calls
        self.begin()
        found = []
        for step in steps:
            left = self.hear(step)
            if left in (Full, Unheard):
                self.finish()
                self.calls = calls
                return left
            found.append(left)
        self.finish()
        return found


def given(call, *arguments):
    """What a call returns, or the class of the error that it raises."""
    try:
        return call(*arguments)
    except CopyError as error:
        return type(error)


class AgainstAPlainOne(unittest.TestCase):

    def test_many_calls_one_behind_another(self):
        for seed in range(60):
            random = Random(seed)
            row = random.choice(ROWS)
            most = random.choice((3, 8, 300))
            for hearing in all_kinds(row, most):
                self.follow(hearing, Plain(row, getattr(hearing, "most", None)), random)

    def follow(self, hearing, plain, random):
        """Does the same to both."""
        blocks = []
        for _ in range(60):
            action = random.choice(["hear"] * 5 + ["undo"] * 2 + ["begin", "finish", "tried", "twin"])
            step = random.choice(hearing.following + [0, 1, 9])
            if action == "hear":
                self.assertEqual(given(hearing.hear, step), plain.hear(step))
            elif action == "undo":
                self.assertEqual(given(hearing.undo), plain.undo())
            elif action == "begin":
                blocks.append(hearing.trying())
                self.assertIs(blocks[-1].begin(), hearing)
                plain.begin()
            elif action == "finish" and blocks:
                blocks.pop().finish()
                plain.finish()
            elif action == "tried":
                steps = [step] + sure_steps(hearing.row, hearing.heard)[0][:random.randrange(4)]
                self.assertEqual(given(hearing.tried, steps), plain.tried(steps))
            elif action == "twin" and not blocks:
                hearing = hearing.twin()
                plain.inside = len(plain.steps)
            self.assertEqual(hearing.heard, plain.steps)
            self.assertEqual(getattr(hearing, "calls", plain.calls), plain.calls)
