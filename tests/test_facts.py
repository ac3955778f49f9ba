"""The facts F1, F2 and F4, held against plain walks over all phases of small rows, and F3."""

import unittest
from itertools import product
from math import gcd, lcm

from lastcopied.alike import alike, can_go
from lastcopied.patterns import least_phases, loses, patterns, repeats, totals, turned
from lastcopied.rows import pattern, settled
from tests.plain_walk import SMALL_ROWS, integer_starts, least_round, real_walks, walked_steps

TIES = ("new", "old")


def least_by_pattern(periods):
    """The least list of integers as in F1 for each pattern, with the tie "new"."""
    least = {}
    for starts in integer_starts(periods):
        least.setdefault(least_round(walked_steps("new", periods, starts)), starts)
    return least


def walked_totals(walks, many):
    """What many steps one after another add up to in some of the walks."""
    found = set()
    for steps in walks:
        ring = steps * (many // len(steps) + 2)
        found.update(sum(ring[at:at + many]) for at in range(len(steps)))
    return sorted(found)


def turned_word(steps):
    """The steps of the word of F4, read letter by letter."""
    word = []
    for step in steps:
        word += ["n"] * step + ["c"]
    word = [{"n": "c", "c": "n"}[letter] for letter in reversed(word)]
    while word[-1] != "c":
        word.insert(0, word.pop())
    found = [0]
    for letter in word[:-1]:
        if letter == "n":
            found[-1] += 1
        else:
            found.append(0)
    return least_round(found)


class Facts(unittest.TestCase):

    def test_f1_patterns_of_all_real_phases(self):
        for periods in SMALL_ROWS:
            for tie in TIES:
                wanted = sorted({least_round(steps) for steps in real_walks(tie, periods)})
                self.assertEqual(patterns((tie, periods)), wanted, (tie, periods))

    def test_f1_least_phases(self):
        for periods in SMALL_ROWS:
            least = least_by_pattern(periods)
            for tie in TIES:
                found = {one: least_phases((tie, periods), one) for one in patterns((tie, periods))}
                self.assertEqual(found, least, (tie, periods))

    def test_f1_settled(self):
        for periods in SMALL_ROWS:
            if len(periods) > 4:
                continue
            least = least_by_pattern(periods)
            fine = [2 * period for period in periods]
            for starts in integer_starts(fine)[::7]:
                phases = [(start // 2, 1) if start % 2 == 0 else (start, 2) for start in starts]
                for tie in TIES:
                    walked = least_round(walked_steps(tie, fine, starts))
                    self.assertEqual(settled((tie, periods), phases), least[walked], (tie, periods))

    def test_f1_a_settled_row_has_the_pattern(self):
        for periods in SMALL_ROWS:
            phases = [(2 * k - 3, 2 * k + 1) for k in range(3, 3 + len(periods))]
            for tie in TIES:
                wanted = pattern((tie, periods), phases)
                whole = [(start, 1) for start in settled((tie, periods), phases)]
                self.assertEqual(pattern(("new", periods), whole), wanted, (tie, periods))

    def test_f2_totals(self):
        for periods in SMALL_ROWS:
            for tie in TIES:
                walks = real_walks(tie, periods)
                for many in (0, 1, 2, 3, 5):
                    self.assertEqual(totals((tie, periods), many), walked_totals(walks, many))

    def test_f2_loses_and_repeats(self):
        for periods in SMALL_ROWS:
            for tie in TIES:
                walks = real_walks(tie, periods)
                self.assertIs(loses((tie, periods)), any(max(steps) > 1 for steps in walks))
                self.assertIs(repeats((tie, periods)), any(min(steps) == 0 for steps in walks))

    def test_f4_turned(self):
        for periods in SMALL_ROWS:
            for tie in TIES:
                row = (tie, periods)
                behind = (tie, periods[::-1])
                found = [turned(row, one) for one in patterns(row)]
                self.assertEqual(found, [turned_word(one) for one in patterns(row)], row)
                self.assertEqual(sorted(found), patterns(behind), row)
                self.assertEqual([turned(behind, one) for one in found], patterns(row), row)

    def test_f3_a_middle_copier_between_two(self):
        for source, middle, reader in product(range(1, 13), repeat=3):
            common = gcd(source, reader)
            whole = lcm(source, reader)
            least = next(k for k in range(0, whole + 1, source) if k % reader == common % reader)
            wanted = whole % middle == 0 and least % middle <= common
            for tie in TIES:
                row = (tie, (source, middle, reader))
                self.assertIs(can_go(row, 1), wanted, row)
                self.assertIs(alike(row, ("new", (source, reader))), wanted, row)

    def test_f3_a_middle_copier_of_a_longer_row(self):
        tried = 0
        for periods in (*product((1, 2, 3, 4, 6), repeat=4), *product((1, 2, 4, 6), repeat=5)):
            for index in range(1, len(periods) - 1):
                if can_go(("new", periods[index - 1:index + 2]), 1):
                    tried += 1
                    self.assertIs(can_go(("old", periods), index), True, (periods, index))
        self.assertGreater(tried, 1000)
