"""A picture of a disk, in text."""

from ringlog.blocks import DATA_TO, FLOOR, NUMBER, is_farewell, is_mark, kind


def picture(disk):
    """Tell what is in each place of the disk, a line for each."""
    many = disk.blocks()
    return "\n".join([_line_of(disk.read(place), place, many) for place in range(many)])


def _line_of(words, place, many):
    what = kind(words, place, many)
    if what != "whole":
        return f"{place} {what}"
    if is_mark(words):
        return f"{place} mark {words[NUMBER]} {words[FLOOR]}"
    if is_farewell(words):
        return f"{place} farewell {words[NUMBER]} {words[FLOOR]}"
    # The last word is the first one again.
    shown = " ".join([str(word) for word in words[:DATA_TO]])
    return f"{place} row {shown}"
