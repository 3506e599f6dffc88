"""The newest whole block of a disk, found by few reads."""

from ringlog.blocks import NUMBER, kind


def most_reads(many):
    """Tell how many reads newest takes at the most on a disk of many blocks."""
    # The least b for which 2 ** b is not below many is the count of the bits of many - 1.
    return 2 + (many - 1).bit_length()


def newest(disk):
    """Tell the newest whole block's number and the torn block's place, or None."""
    many = disk.blocks()
    words = disk.read(0)
    first_kind = kind(words, 0, many)
    if first_kind == "empty":
        return (many - 1, None)
    if first_kind == "torn":
        # The next block's place is 0, so the newest one, if there is any, is in the last place.
        return (_number_in_last_place(disk), 0)
    return _newest_of_round(disk, words[NUMBER])


def _number_in_last_place(disk):
    many = disk.blocks()
    words = disk.read(many - 1)
    if kind(words, many - 1, many) == "whole":
        return words[NUMBER]
    return many - 1


def _newest_of_round(disk, start):
    """Tell what newest tells, where place 0 holds the whole block numbered start."""
    many = disk.blocks()
    # In low is a block of the round that began with start; from high on there is none.
    low = 0
    high = many
    torn = None
    while high - low > 1:
        middle = (low + high) // 2
        words = disk.read(middle)
        what = kind(words, middle, many)
        if what == "whole" and words[NUMBER] == start + middle:
            low = middle
        else:
            high = middle
            # At the end high is the next block's place, the only one that may be torn.
            torn = middle if what == "torn" else None
    return (start + low, torn)
