"""Integers and fractions: what they are, and the errors for what they are not."""

from math import gcd

from lastcopied.errors import InvalidNumber, InvalidTime

MOST_MANY = 2000


def is_integer(value):
    """Whether any value is an int that is not a bool."""
    return isinstance(value, int) and not isinstance(value, bool)


def is_within(value, least, most):
    """Whether any value is an integer from the least to the most."""
    return is_integer(value) and least <= value <= most


def is_fraction(value):
    """Whether any value is a tuple (top, bottom) of integers in lowest terms, bottom from 1 on."""
    if not isinstance(value, tuple) or len(value) != 2:
        return False
    top, bottom = value
    return is_integer(top) and is_integer(bottom) and bottom >= 1 and gcd(top, bottom) == 1


def fraction(top, bottom):
    """The number top / bottom as a fraction; the bottom is from 1 on."""
    common = gcd(top, bottom)
    return top // common, bottom // common


def check_time(time):
    """Raises InvalidTime unless the time is a fraction."""
    if not is_fraction(time):
        raise InvalidTime("a time is a fraction (top, bottom) in lowest terms")


def check_integer(value):
    """Raises InvalidNumber unless the value is an integer."""
    if not is_integer(value):
        raise InvalidNumber("a number is an integer")


def check_many(many):
    """Raises InvalidNumber unless many is an integer from 0 to 2000."""
    if not is_within(many, 0, MOST_MANY):
        raise InvalidNumber("a number of steps or arrivals is an integer from 0 to 2000")


def ascending(items):
    """The ascending list of the items, each one once, integers or tuples that Python compares."""
    # Not by sorted: beside a class with an order, as the document's Line, it takes no tuples (L5).
    found = []
    for item in items:
        low = 0
        high = len(found)
        while low < high:
            middle = (low + high) // 2
            if found[middle] < item:
                low = middle + 1
            else:
                high = middle
        if low == len(found) or found[low] != item:
            found.insert(low, item)
    return found
