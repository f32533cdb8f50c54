"""Checks of any values that several files share."""


def is_integer(value, low, high):
    return isinstance(value, int) and not isinstance(value, bool) and low <= value <= high


def is_row(value, least, most, is_item):
    """Tell whether a value is a tuple of so many items, each of the kind that `is_item` tells."""
    return isinstance(value, tuple) and least <= len(value) <= most and all([is_item(item) for item in value])


def is_rising(items):
    """Tell whether each item is less than the one behind it."""
    return all([one < other for one, other in zip(items, items[1:])])
