"""A plain walk along a row, tick by tick, made without the program that it is held against."""

from itertools import product
from math import lcm


def round_length(periods):
    """How many steps there are until they surely repeat."""
    return lcm(*periods) // periods[-1]


def walked_arrivals(tie, periods, starts, many):
    """Arrivals by the number of the reader's moment, about from moment 0 on; all times are integers.

    At each tick all copiers that have a moment then take what is held ahead of them: one behind
    another from the source on for "new", from the reader on for "old".
    """
    order = list(range(len(periods)))
    if tie == "old":
        order.reverse()
    held = [None] * len(periods)
    taken = {}
    tick = min(starts) - sum(periods)
    while many - 1 not in taken:
        for place in order:
            moment, beside = divmod(tick - starts[place], periods[place])
            if beside == 0:
                held[place] = moment if place == 0 else held[place - 1]
                if place == len(periods) - 1:
                    taken[moment] = held[place]
        tick += 1
    return [taken[number] for number in range(many)]


def walked_steps(tie, periods, starts):
    """The steps from step 0 on until they surely repeat."""
    numbers = walked_arrivals(tie, periods, starts, round_length(periods) + 1)
    return [ahead - number for number, ahead in zip(numbers, numbers[1:])]


def least_round(steps):
    """The fewest steps that are repeated, turned so that they are the least."""
    for size in range(1, len(steps) + 1):
        if len(steps) % size == 0 and steps[:size] * (len(steps) // size) == steps:
            break
    return min(tuple(steps[place:size] + steps[:place]) for place in range(size))


def integer_starts(periods):
    """The lists of integers as in F1, ascending."""
    return [[0, *rest] for rest in product(*[range(period) for period in periods[1:]])]


def real_walks(tie, periods):
    """The steps for all real phases.

    Only the order of the copiers' moments matters, and which ones are equal. As there are as many
    copiers as ticks in a unit of time here, every such order comes up.
    """
    fine = [period * len(periods) for period in periods]
    return [walked_steps(tie, fine, starts) for starts in integer_starts(fine)]


def walked_ages(tie, periods, starts):
    """The ages at the arrivals from 0 on until they surely repeat."""
    numbers = walked_arrivals(tie, periods, starts, round_length(periods))
    moments = [starts[-1] + k * periods[-1] for k in range(len(numbers))]
    return [moment - starts[0] - number * periods[0] for moment, number in zip(moments, numbers)]


def walked_waits(tie, periods, starts):
    """The waits of as many moments of the source as there are until they surely repeat."""
    many = lcm(*periods) // periods[0]
    span = (many + 1) * periods[0] + sum(periods)
    numbers = walked_arrivals(tie, periods, starts, span // periods[-1] + 2)
    waits = []
    # The source's moments are those behind the first arrival's, so that no first one is missed.
    for number in range(numbers[0] + 1, numbers[0] + 1 + many):
        k = next(at for at, taken in enumerate(numbers) if taken >= number)
        waits.append(starts[-1] + k * periods[-1] - starts[0] - number * periods[0])
    return waits


def branch_walks(row, grid, end, many):
    """The arrivals for all middle phases that are multiples of 1 / grid, the reader's end / grid."""
    tie, periods = row
    fine = [period * grid for period in periods]
    return {
        tuple(walked_arrivals(tie, fine, [0, *middles, end], many))
        for middles in product(*[range(period) for period in fine[1:-1]])
    }


def walked_gaps(one, other, grid):
    """The arrivals of the one less those of the other until they surely repeat.

    Once for all common phases that are multiples of 1 / grid, as far as they make a difference.
    """
    many = lcm(*one[1], *other[1]) // one[1][-1]
    for end in range(grid * one[1][-1]):
        ones = branch_walks(one, grid, end, many)
        others = branch_walks(other, grid, end, many)
        for numbers, taken in product(ones, others):
            yield [number - beside for number, beside in zip(numbers, taken)]


SMALL_ROWS = (
    list(product(range(1, 7), repeat=2))
    + list(product(range(1, 4), repeat=3))
    + [(4, 3, 2), (2, 3, 4), (3, 4, 3), (4, 2, 4), (5, 3, 4), (4, 6, 3), (4, 3, 4), (8, 3, 4), (5, 4, 5)]
    + [(2, 3, 2, 3), (1, 2, 3, 2), (3, 2, 1, 2), (2, 2, 2, 2)]
    + [(2, 1, 2, 1, 2), (1, 2, 1, 1, 2)]
)
