"""Plain values: the forms that things have, tuples for lists, and fractions."""

from math import gcd


def is_number(thing):
    """Whether thing is a number: an int that is not a bool."""
    return isinstance(thing, int) and not isinstance(thing, bool)


def is_pair(thing):
    """Whether thing is a tuple of two."""
    return isinstance(thing, tuple) and len(thing) == 2


def tupled(worth):
    """The same value with a tuple for each list, at any depth."""
    if isinstance(worth, (list, tuple)):
        return tuple([tupled(part) for part in worth])
    return worth


def fraction(top, bottom):
    """The FRACTION of top, from 0, divided by bottom, from 1."""
    shared = gcd(top, bottom)
    return top // shared, bottom // shared
