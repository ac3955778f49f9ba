"""Rows and their phases, what the reader holds and takes, and the pattern of its steps."""

from lastcopied.errors import InvalidPeriod, InvalidPhases, InvalidRow
from lastcopied.values import check_integer, check_many, check_time, is_fraction, is_within
from lastcopied.walks import (
    arrival, common_scale, least_starts, on_scale, on_scale_all, pattern_of, round_steps,
)

FEWEST_COPIERS = 2
MOST_COPIERS = 5
MOST_PERIOD = 60


def is_period(value):
    """Whether any value is an integer from 1 to 60."""
    return is_within(value, 1, MOST_PERIOD)


def check_period(period):
    """Raises InvalidPeriod unless the period is one."""
    if not is_period(period):
        raise InvalidPeriod("a period is an integer from 1 to 60")


def is_row(value):
    """Whether any value is a row."""
    if not isinstance(value, tuple) or len(value) != 2:
        return False
    tie, periods = value
    if not isinstance(tie, str) or tie not in ("new", "old"):
        return False
    if not isinstance(periods, tuple) or not FEWEST_COPIERS <= len(periods) <= MOST_COPIERS:
        return False
    return all([is_period(period) for period in periods])


def check_row(row):
    """Raises InvalidRow unless the row is one."""
    if not is_row(row):
        raise InvalidRow("a row is a tuple of \"new\" or \"old\" and two to five periods from 1 to 60")


def is_phases(row, value):
    """Whether any value is a list of phases of the row."""
    check_row(row)
    if not isinstance(value, list) or len(value) != len(row[1]):
        return False
    return all([is_fraction(phase) for phase in value])


def check_phases(row, phases):
    """Raises InvalidRow unless the row is one, then InvalidPhases unless the phases are phases of it."""
    if not is_phases(row, phases):
        raise InvalidPhases("phases of a row are a list of one fraction for each copier")


def number_at(row, phases, time):
    """The number that the reader holds at a time, behind its moment if it has one then."""
    check_phases(row, phases)
    check_time(time)
    scale = common_scale(phases + [time])
    periods, starts = on_scale_all(row[1], phases, scale)
    moment = (on_scale(time, scale) - starts[-1]) // periods[-1]
    return arrival(row[0], periods, starts, moment)


def arrivals(row, phases, first, many):
    """The list of so many arrivals of the reader, from the one with the number first on."""
    check_phases(row, phases)
    check_integer(first)
    check_many(many)
    periods, starts = on_scale_all(row[1], phases, common_scale(phases))
    return [arrival(row[0], periods, starts, number) for number in range(first, first + many)]


def told_steps(row, phases):
    """The tuple of the steps from step 0 on, as many as there are until they surely repeat."""
    check_phases(row, phases)
    periods, starts = on_scale_all(row[1], phases, common_scale(phases))
    return round_steps(row[0], periods, starts)


def pattern(row, phases):
    """The pattern of the row for these phases."""
    return pattern_of(told_steps(row, phases))


def settled(row, phases):
    """The least list of integer phases that bring the same pattern for the tie "new"."""
    wanted = pattern(row, phases)
    return least_starts(row[1], wanted)
