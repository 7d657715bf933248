"""Tests of single values, of whatever kind they are."""


def is_integer(value):
    # Python counts True and False among the integers, the document does not.
    return isinstance(value, int) and not isinstance(value, bool)


def is_between(value, low, high):
    return is_integer(value) and low <= value <= high
