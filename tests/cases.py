"""Rows with either tie, beside phases of all kinds, for the tests with told phases."""

from fractions import Fraction

ROWS = [
    (2, 3), (1, 1), (1, 60), (60, 1), (60, 60), (7, 5), (2, 3, 2), (3, 2, 3), (4, 6, 3),
    (5, 2, 3, 4), (2, 3, 2, 3, 2), (1, 1, 1, 1, 1), (6, 4, 3, 2, 5),
]
# The numbers are over 12, so that moments of several copiers are equal now and then.
TWELFTHS = [
    [0, 0, 0, 0, 0], [0, 12, 24, 12, 36], [0, 6, 3, 4, 9], [-5, 7, 100, -100, 13],
    [8, -4, 20, 8, -16], [1, 2, 3, 4, 5], [-24, -12, -36, -12, -24],
]


def phases_of(twelfths, periods):
    """The fractions of the first numbers over 12, as many as periods."""
    parts = [Fraction(number, 12) for number in twelfths[:len(periods)]]
    return [(part.numerator, part.denominator) for part in parts]


def each_case():
    """Rows with either tie, beside phases as twelfths."""
    for periods in ROWS:
        for twelfths in TWELFTHS:
            for tie in ("new", "old"):
                yield (tie, periods), twelfths[:len(periods)]
