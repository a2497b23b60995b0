"""Whole numbers as the package takes them."""


def is_count(value):
    """Whether any object is a count: a whole number of at least 0."""
    # To Python, True and False are integers.
    return isinstance(value, int) and not isinstance(value, bool) and value >= 0


def is_count_below(value, bound):
    """Whether any object is a count that is less than the bound."""
    return is_count(value) and value < bound
