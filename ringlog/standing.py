"""The rows that whole blocks, numbered one after the other, hold: those that are all there, and the cut ones."""

from ringlog.blocks import BEGIN, LEFT, NO_BEGIN, NUMBER, words_of


def rows_in(blocks):
    """Tell begin and words of each row whose last block is there, in order."""
    return [(some[0][BEGIN], words_of(some)) for some in _by_row(blocks) if _has_last(some)]


def cut_in(blocks):
    """Tell the begins of the rows whose last block is not there, in order."""
    return [some[0][BEGIN] for some in _by_row(blocks) if not _has_last(some)]


def _by_row(blocks):
    """Tell the blocks of each row, a list for each, in order."""
    found = []
    for words in blocks:
        # A mark and a farewell begin no row and belong to none.
        if words[BEGIN] == NO_BEGIN:
            continue
        if words[BEGIN] == words[NUMBER]:
            found.append([])
        found[-1].append(words)
    return found


def _has_last(some):
    return some[-1][LEFT] == 0
