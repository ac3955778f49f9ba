"""How old the numbers can be that the reader takes, and how long they can take to it."""

from lastcopied.rows import check_phases, check_row
from lastcopied.values import ascending, fraction
from lastcopied.walks import age, common_multiple, common_scale, on_scale_all, wait


def _all_bounds(tie, most):
    """The bounds of a time that is put together from 0 up to the most, each one reached or not."""
    if tie == "new":
        return 0, True, most, False
    return 0, False, most, True


def ages(row):
    """The tuple (least, reached, greatest, reached) of the bounds of all ages, over all phases."""
    check_row(row)
    return _all_bounds(row[0], sum(row[1][:-1]))


def waits(row):
    """The tuple (least, reached, greatest, reached) of the bounds of all waits, over all phases."""
    check_row(row)
    return _all_bounds(row[0], sum(row[1][1:]))


def _bounds(times, scale):
    """The least and the greatest of the times, which are on the scale, as fractions."""
    found = ascending(times)
    return fraction(found[0], scale), fraction(found[-1], scale)


def age_bounds(row, phases):
    """The tuple (least, greatest) of the ages at all arrivals, for told phases."""
    check_phases(row, phases)
    scale = common_scale(phases)
    periods, starts = on_scale_all(row[1], phases, scale)
    many = common_multiple(row[1]) // row[1][-1]
    return _bounds([age(row[0], periods, starts, number) for number in range(many)], scale)


def wait_bounds(row, phases):
    """The tuple (least, greatest) of the waits of all moments of the source, for told phases."""
    check_phases(row, phases)
    scale = common_scale(phases)
    periods, starts = on_scale_all(row[1], phases, scale)
    many = common_multiple(row[1]) // row[1][0]
    return _bounds([wait(row[0], periods, starts, number) for number in range(many)], scale)


def sure_age(row, phases):
    """Whether the age is the same at all arrivals, for told phases."""
    least, greatest = age_bounds(row, phases)
    return least == greatest
