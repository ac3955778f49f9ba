"""All patterns of a row, for all beginnings at once, and how far many steps can go."""

from lastcopied.errors import InvalidPattern
from lastcopied.rows import check_row
from lastcopied.values import ascending, check_many, is_integer
from lastcopied.walks import few_starts, least_starts, pattern_of, round_steps


def patterns(row):
    """The ascending list of all patterns that the row has."""
    check_row(row)
    periods = row[1]
    # The tie does not matter to the patterns.
    return ascending([pattern_of(round_steps("new", periods, starts)) for starts in few_starts(periods)])


def check_pattern(row, pattern):
    """Raises InvalidRow unless the row is one, then InvalidPattern unless it has the pattern."""
    known = patterns(row)
    # True equals 1 in Python, so that a tuple with booleans could equal a pattern.
    if not isinstance(pattern, tuple) or not all([is_integer(step) for step in pattern]):
        raise InvalidPattern("a pattern is a tuple of integers")
    if pattern not in known:
        raise InvalidPattern("the row does not have this pattern")


def least_phases(row, pattern):
    """The least list of integer phases for which the row with the tie "new" has the pattern."""
    check_pattern(row, pattern)
    return least_starts(row[1], pattern)


def totals(row, many):
    """The ascending list of all integers that many steps one after another can add up to."""
    check_row(row)
    check_many(many)
    periods = row[1]
    reached = [many * periods[-1]]
    for period in periods[-2::-1]:
        below = [number // period * period for number in reached]
        above = [-(-number // period) * period for number in reached]
        reached = below + above
    return ascending([number // periods[0] for number in reached])


def turned(row, pattern):
    """The pattern of the row with the periods from behind that belongs to the pattern of the row."""
    check_pattern(row, pattern)
    word = "".join(["n" * step + "c" for step in pattern])
    swapped = "".join(["c" if letter == "n" else "n" for letter in word[::-1]])
    cut = swapped.rfind("c") + 1
    ending = swapped[cut:] + swapped[:cut]
    # The word ends with c, so that the last part is empty and belongs to no c.
    parts = ending.split("c")[:-1]
    return pattern_of(tuple([len(part) for part in parts]))


def loses(row):
    """Whether for some phases some step is 2 or more."""
    return totals(row, 1)[-1] >= 2


def repeats(row):
    """Whether for some phases some step is 0."""
    return totals(row, 1)[0] == 0
