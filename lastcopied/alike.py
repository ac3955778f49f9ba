"""Rows with the same patterns, and which middle copiers of a row make no difference."""

from lastcopied.errors import InvalidIndex
from lastcopied.patterns import patterns
from lastcopied.rows import check_row
from lastcopied.values import ascending, is_within


def alike(one, other):
    """Whether two rows have the same patterns."""
    return patterns(one) == patterns(other)


def _missing(known, others):
    """The patterns that are known and none of the others."""
    found = {pattern: True for pattern in others}
    return [pattern for pattern in known if pattern not in found]


def within(one, other):
    """Whether each pattern of the one row is a pattern of the other."""
    return not _missing(patterns(one), patterns(other))


def parting(one, other):
    """The least pattern, by its number of steps and then as a tuple, that just one row has, or None."""
    known = patterns(one)
    others = patterns(other)
    alone = ascending(_missing(known, others) + _missing(others, known))
    # The first of the shortest ones is the least of them, as all are ascending.
    return min(alone, key=len) if alone else None


def check_middle(row, index):
    """Raises InvalidRow unless the row is one, then InvalidIndex unless it has this middle copier."""
    check_row(row)
    if not is_within(index, 1, len(row[1]) - 2):
        raise InvalidIndex("an index of a middle copier is from 1 to the number of copiers less 2")


def left_out(row, index):
    """The row without its middle copier with this index."""
    check_middle(row, index)
    tie, periods = row
    return tie, periods[:index] + periods[index + 1:]


def can_go(row, index):
    """Whether the middle copier with this index can be left out without a change of the patterns."""
    shorter = left_out(row, index)
    return alike(row, shorter)


def _index_lists(many):
    """All ascending lists of indexes from 1 to many, shorter ones first, then ascending."""
    found = [[]]
    for index in range(1, many + 1):
        found = found + [chosen + [index] for chosen in found]
    keyed = ascending([(len(chosen), chosen) for chosen in found])
    return [chosen for _, chosen in keyed]


def with_middles(row, chosen):
    """The row with these of its middle copiers alone."""
    tie, periods = row
    middles = [periods[index] for index in chosen]
    return tie, tuple([periods[0]] + middles + [periods[-1]])


def _is_part(some, chosen):
    """Whether all of some indexes are among the chosen ones."""
    return all([index in chosen for index in some])


def least_rows(row):
    """The lists of indexes of middle copiers that alone bring the same patterns, none of them needless."""
    known = patterns(row)
    found = []
    for chosen in _index_lists(len(row[1]) - 2):
        # The lists found so far are not longer and not equal, so that a part is a proper part.
        needless = any([_is_part(some, chosen) for some in found])
        if not needless and patterns(with_middles(row, chosen)) == known:
            found.append(chosen)
    return found
