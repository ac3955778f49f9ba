"""Two branches from one source to one reader, and how far apart their numbers can be.

Which moment of the copier ahead a copier takes its numbers from depends on the difference of their
phases, but only on how often the greatest common divisor of their periods, here called their unit,
goes into it. So a branch is told by low starts: integers, of which each two neighbours differ by a
multiple of their unit. With the tie "new" they stand for all phases in which each copier begins
less than one unit later, as seen from the copier ahead; with "old" for those in which it begins
more than nothing and at most one unit later. The reader can so begin anywhere up to the slack, the
sum of the units, behind its low start. Two branches have common phases if both such ranges meet:
no fractions need be tried.
"""

from lastcopied.errors import OtherEnds
from lastcopied.rows import check_row
from lastcopied.values import fraction
from lastcopied.walks import arrival, common_multiple, units_of


def check_branches(one, other):
    """Raises InvalidRow unless both are rows, then OtherEnds unless they are branches."""
    check_row(one)
    check_row(other)
    if one[0] != other[0] or one[1][0] != other[1][0] or one[1][-1] != other[1][-1]:
        raise OtherEnds("branches have the same tie, source period and reader period")


def _most_behind(periods):
    """How many numbers the middle copiers alone can keep the reader behind the source."""
    return -(-sum(periods[1:-1]) // periods[0])


def differences(one, other):
    """The ascending list of what the arrival of the one less that of the other can be."""
    check_branches(one, other)
    return list(range(-_most_behind(one[1]), _most_behind(other[1]) + 1))


def together(one, other):
    """Whether both arrivals are the same "always", "surely" at some moment, or only "perhaps"."""
    if differences(one, other) == [0]:
        return "always"
    if _apart_starts(one[1], other[1]) is None:
        return "surely"
    return "perhaps"


def apart_phases(one, other):
    """Common phases of both for which the arrivals are the same at no moment, None if there are none."""
    check_branches(one, other)
    apart = _apart_starts(one[1], other[1])
    if apart is None:
        return None
    phase = _common_phase(one, other, apart)
    return _real_phases(one[1], apart[0], phase), _real_phases(other[1], apart[1], phase)


def _slack(periods):
    """How far the reader's real phase can be from its low start."""
    return sum(units_of(periods))


def _low_starts(periods, least, most):
    """The low starts, the source's 0, with the reader's from the least to the most.

    As the moments of the middle copiers need no numbers, theirs are taken only up to their periods.
    """
    units = units_of(periods)
    found = [[0]]
    for period, unit in zip(periods[1:-1], units):
        found = [starts + [starts[-1] + ahead] for starts in found for ahead in range(0, period, unit)]
    ends = range(least, most + 1)
    return [starts + [end] for starts in found for end in ends if (end - starts[-1]) % units[-1] == 0]


def _walks(periods, least, most, many):
    """The low starts as in _low_starts, each beside the first arrivals, so many of them."""
    return [
        (starts, [arrival("new", periods, starts, number) for number in range(many)])
        for starts in _low_starts(periods, least, most)
    ]


def _apart_starts(one, other):
    """Low starts for both periods that bring the same number at no moment, None if there are none."""
    many = common_multiple(one + other) // one[-1]
    slack = _slack(one)
    behind = _slack(other)
    # To begin with another moment of the reader changes nothing: one period of it is enough.
    others = _walks(other, 1 - behind, one[-1] + slack - 2, many)
    for starts, numbers in _walks(one, 0, one[-1] - 1, many):
        for beside, taken in others:
            meets = starts[-1] < beside[-1] + behind and beside[-1] < starts[-1] + slack
            if meets and not any([numbers[at] == taken[at] for at in range(many)]):
                return starts, beside
    return None


def _common_phase(one, other, apart):
    """A phase of the reader that the low starts of both rows can have."""
    starts, beside = apart
    if one[0] == "new":
        return max(int(starts[-1]), int(beside[-1]))
    # For "old" the low start itself cannot be the phase, but the end of its slack can.
    return min(int(starts[-1] + _slack(one[1])), int(beside[-1] + _slack(other[1])))


def _real_phases(periods, starts, phase):
    """Phases with these low starts and this phase of the reader."""
    slack = _slack(periods)
    beyond = phase - starts[-1]
    phases = [fraction(starts[0], 1)]
    passed = 0
    for start, unit in zip(starts[1:], units_of(periods)):
        # Each one has its share, which is less than its unit if all of it is less than the slack.
        passed = passed + unit
        phases.append(fraction(start * slack + beyond * passed, slack))
    return phases
