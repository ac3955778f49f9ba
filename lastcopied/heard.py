"""What a heard stretch of steps tells about the pattern of a row, and about the steps to come."""

from lastcopied.errors import InvalidStep, InvalidStretch, Unheard
from lastcopied.patterns import check_pattern, patterns
from lastcopied.rows import check_row
from lastcopied.values import ascending, is_integer


def is_step(value):
    """Whether any value is an integer from 0 on."""
    return is_integer(value) and value >= 0


def check_step(step):
    """Raises InvalidStep unless the step is one."""
    if not is_step(step):
        raise InvalidStep("a step is an integer from 0 on")


def check_stretch(stretch):
    """Raises InvalidStretch unless the stretch is a list of steps."""
    if not isinstance(stretch, list) or not all([is_step(step) for step in stretch]):
        raise InvalidStretch("a stretch is a list of integers from 0 on")


def _check_heard(row, stretch):
    """Raises InvalidRow unless the row is one, then InvalidStretch unless the stretch is one."""
    check_row(row)
    check_stretch(stretch)


def _windows(pattern, size):
    """The tuples of so many steps that the pattern has from each of its places on."""
    around = pattern * (size // len(pattern) + 2)
    return [around[place:place + size] for place in range(len(pattern))]


def _turns_behind(pattern, stretch):
    """The pattern turned to begin behind the stretch, for each place where it has the stretch."""
    told = tuple(stretch)
    windows = _windows(pattern, len(told))
    behind = [(place + len(told)) % len(pattern) for place in range(len(pattern)) if windows[place] == told]
    return [pattern[place:] + pattern[:place] for place in behind]


def _all_turns(row, stretch):
    """The turns behind the stretch of all patterns of the row; no two of them go on for ever alike."""
    return [turn for pattern in patterns(row) for turn in _turns_behind(pattern, stretch)]


def patterns_with(row, stretch):
    """The ascending list of the patterns of the row that have the stretch."""
    _check_heard(row, stretch)
    return [pattern for pattern in patterns(row) if _turns_behind(pattern, stretch)]


def next_steps(row, stretch):
    """The ascending list of all steps that can follow the stretch."""
    _check_heard(row, stretch)
    return ascending([turn[0] for turn in _all_turns(row, stretch)])


def sure_steps(row, stretch):
    """The tuple of the steps that surely follow the stretch and those that can follow then.

    If there is no doubt for ever, it is one round and the empty list.
    """
    _check_heard(row, stretch)
    turns = _all_turns(row, stretch)
    if not turns:
        raise Unheard("no pattern of the row has this stretch")
    if len(turns) == 1:
        return list(turns[0]), []
    # Two turns at least are left, which are unlike, so that there comes a doubt.
    steps = []
    following = ascending([turn[0] for turn in turns])
    while len(following) == 1:
        steps.append(following[0])
        following = ascending([turn[len(steps) % len(turn)] for turn in turns])
    return steps, following


def telling(row, pattern):
    """The least stretch, by its number of steps and then as a list, that just this pattern has."""
    check_pattern(row, pattern)
    others = [other for other in patterns(row) if other != pattern]
    size = 0
    alone = _windows_alone(pattern, others, size)
    while not alone:
        size = size + 1
        alone = _windows_alone(pattern, others, size)
    return list(ascending(alone)[0])


def _windows_alone(pattern, others, size):
    """The windows of the pattern that none of the others has."""
    taken = {window: True for other in others for window in _windows(other, size)}
    return [window for window in _windows(pattern, size) if window not in taken]


def doubt(row):
    """The greatest number of steps of a stretch that two unlike patterns both have, -1 for one pattern."""
    known = patterns(row)
    size = 0
    # A part of a stretch that two patterns have is one, too: so no greater one is missed.
    while _is_shared(known, size):
        size = size + 1
    return size - 1


def _is_shared(known, size):
    """Whether two unlike patterns have a stretch of so many steps in common."""
    owners = {}
    for pattern in known:
        for window in _windows(pattern, size):
            if window in owners and owners[window] != pattern:
                return True
            owners[window] = pattern
    return False
