"""Walks along a row in which all times are integers, and the patterns of such walks.

Nothing is checked here; rows and phases that are fractions are brought to a common scale first.
"""

from math import gcd, lcm


def common_multiple(numbers):
    """The least common multiple of all the numbers."""
    found = 1
    for number in numbers:
        found = lcm(found, number)
    return found


def common_scale(times):
    """The least number that makes an integer of each of the fractions."""
    return common_multiple([bottom for _, bottom in times])


def on_scale(time, scale):
    """The fraction times the scale, an integer."""
    top, bottom = time
    return top * (scale // bottom)


def on_scale_all(periods, phases, scale):
    """The periods and the phases, all times the scale."""
    return tuple([period * scale for period in periods]), [on_scale(phase, scale) for phase in phases]


def lateness(tie):
    """How many ticks a moment has to be ahead of another one to count as the earlier one."""
    return 0 if tie == "new" else 1


def arrival(tie, periods, starts, number):
    """What the reader takes at its moment with this number."""
    # Each copier ahead has it from its own last moment; for "old" one at the same time is too late.
    late = lateness(tie)
    moment = number
    for place in reversed(range(len(periods) - 1)):
        when = starts[place + 1] + moment * periods[place + 1]
        moment = (when - late - starts[place]) // periods[place]
    return moment


def age(tie, periods, starts, number):
    """How long ago the source began with the number that the reader takes at its moment."""
    source_moment = starts[0] + arrival(tie, periods, starts, number) * periods[0]
    return starts[-1] + number * periods[-1] - source_moment


def wait(tie, periods, starts, number):
    """How long it takes from the source's moment to the first arrival of its number or a greater one."""
    late = lateness(tie)
    begun = starts[0] + number * periods[0]
    when = begun
    for place in range(1, len(periods)):
        # The copier's first moment that is late enough, so that the division is rounded up.
        moment = -((starts[place] - when - late) // periods[place])
        when = starts[place] + moment * periods[place]
    return when - begun


def round_steps(tie, periods, starts):
    """The tuple of the steps from step 0 on up to where they surely repeat."""
    many = common_multiple(periods) // periods[-1]
    numbers = [arrival(tie, periods, starts, number) for number in range(many + 1)]
    return tuple([numbers[place + 1] - numbers[place] for place in range(many)])


def made_short(steps):
    """The fewest steps of which the tuple of steps is a repetition."""
    for size in range(1, len(steps)):
        if len(steps) % size == 0 and steps[size:] == steps[:-size]:
            return steps[:size]
    return steps


def least_turn(steps):
    """The least of the turned tuples of the steps."""
    least = steps
    for place in range(1, len(steps)):
        turn = steps[place:] + steps[:place]
        if turn < least:
            least = turn
    return least


def pattern_of(steps):
    """The pattern of the endless repetition of the tuple of steps."""
    return least_turn(made_short(steps))


def units_of(periods):
    """The greatest common divisor of the periods of each two neighbours.

    As all differences of their moments are the difference of their phases and a multiple of this
    unit, only how often the unit goes into the difference of the phases decides what is taken.
    """
    return [gcd(periods[place], periods[place + 1]) for place in range(len(periods) - 1)]


def few_starts(periods):
    """Lists of integer phases, as few as are easily told, that bring all patterns."""
    found = [[0]]
    shift = periods[0]
    for period, unit in zip(periods[1:], units_of(periods)):
        # To begin later by the shift changes nothing for the copiers ahead, by its period nothing
        # for this one: so its phase makes a difference only up to the common divisor of both.
        bound = gcd(shift, period)
        found = [starts + [starts[-1] + ahead] for starts in found for ahead in range(0, bound, unit)]
        shift = lcm(shift, period)
    return found


def all_starts(periods):
    """All lists of integer phases, the first one 0, each other one from 0 on and less than its period.

    They are ascending, and bring all patterns.
    """
    found = [[0]]
    for period in periods[1:]:
        found = [starts + [start] for starts in found for start in range(period)]
    return found


def least_starts(periods, wanted):
    """The least of all_starts with the wanted pattern for the tie "new", None if there is none."""
    for starts in all_starts(periods):
        if pattern_of(round_steps("new", periods, starts)) == wanted:
            return starts
    return None
