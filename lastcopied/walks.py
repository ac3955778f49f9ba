"""Walks along a row in which all times are integers, and the patterns of such walks.

Nothing is checked here; rows and phases that are fractions are brought to a common scale first.
"""

from math import lcm


def common_multiple(numbers):
    """The least common multiple of all the numbers."""
    found = 1
    for number in numbers:
        found = lcm(found, number)
    return found


def common_scale(times):
    """The least number that makes an integer of each of the fractions."""
    return common_multiple([bottom for _, bottom in times])


def on_scale(time, scale):
    """The fraction times the scale, an integer."""
    top, bottom = time
    return top * (scale // bottom)


def arrival(tie, periods, starts, number):
    """What the reader takes at its moment with this number."""
    # Each copier ahead has it from its own last moment; for "old" one at the same time is too late.
    late = 0 if tie == "new" else 1
    moment = number
    for place in reversed(range(len(periods) - 1)):
        when = starts[place + 1] + moment * periods[place + 1]
        moment = (when - late - starts[place]) // periods[place]
    return moment


def round_steps(tie, periods, starts):
    """The tuple of the steps from step 0 on up to where they surely repeat."""
    many = common_multiple(periods) // periods[-1]
    numbers = [arrival(tie, periods, starts, number) for number in range(many + 1)]
    return tuple([numbers[place + 1] - numbers[place] for place in range(many)])


def made_short(steps):
    """The fewest steps of which the tuple of steps is a repetition."""
    for size in range(1, len(steps)):
        if len(steps) % size == 0 and steps[size:] == steps[:-size]:
            return steps[:size]
    return steps


def least_turn(steps):
    """The least of the turned tuples of the steps."""
    least = steps
    for place in range(1, len(steps)):
        turn = steps[place:] + steps[:place]
        if turn < least:
            least = turn
    return least


def pattern_of(steps):
    """The pattern of the endless repetition of the tuple of steps."""
    return least_turn(made_short(steps))


def all_starts(periods):
    """All lists of integer phases that bring all patterns, ascending.

    The first one is 0, each other one is from 0 on and less than its period.
    """
    found = [[0]]
    for period in periods[1:]:
        found = [starts + [start] for starts in found for start in range(period)]
    return found


def least_starts(periods, wanted):
    """The least of all_starts with the wanted pattern for the tie "new", None if there is none."""
    for starts in all_starts(periods):
        if pattern_of(round_steps("new", periods, starts)) == wanted:
            return starts
    return None
