"""Whole numbers within bounds."""


def is_whole(value, low, high):
    """Tell whether value is a whole number from low to high."""
    # Python counts True and False among the integers; the document does not.
    return isinstance(value, int) and not isinstance(value, bool) and low <= value <= high
