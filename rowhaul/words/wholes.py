"""Whole numbers, and tuples of so many things."""

from rowhaul.errors import NoNumber


def is_whole(thing):
    """Is it a whole number? True and False, which Python counts among the ints, are none."""
    return isinstance(thing, int) and not isinstance(thing, bool)


def is_from(thing, low, high):
    """Is it a whole number from low to high?"""
    return is_whole(thing) and low <= thing <= high


def is_several(thing, fewest, most):
    """Is it a tuple of so many things?"""
    return isinstance(thing, tuple) and fewest <= len(thing) <= most


def is_rising(numbers):
    """Is each of these whole numbers greater than the one ahead of it?"""
    return all([one < other for one, other in zip(numbers, numbers[1:])])


def check_from(thing, low, high):
    """Refuse what is no whole number from low to high."""
    if not is_from(thing, low, high):
        raise NoNumber("no whole number within its bounds")
