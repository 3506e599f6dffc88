"""The eight words of a block that a log writes, and the row that some blocks hold together."""

PIECE_WORDS = 3
# Where the words of a block stand.
NUMBER = 0
FLOOR = 1
BEGIN = 2
LEFT = 3
DATA_FROM = 4
DATA_TO = 7
# The begin of a block that is of no row, and the left by which a mark and a farewell differ.
NO_BEGIN = 0
LEFT_OF_MARK = 0
LEFT_OF_FAREWELL = 1


def made(number, floor, begin, left, data):
    """Tell the eight words of a block."""
    return [number, floor, begin, left, *data, number]


def made_mark(number, floor):
    """Tell the eight words of a mark."""
    return made(number, floor, NO_BEGIN, LEFT_OF_MARK, [0] * PIECE_WORDS)


def made_farewell(number, floor):
    """Tell the eight words of a farewell."""
    return made(number, floor, NO_BEGIN, LEFT_OF_FAREWELL, [0] * PIECE_WORDS)


def is_mark(words):
    """Tell whether a whole block is a mark."""
    return words[BEGIN] == NO_BEGIN and words[LEFT] == LEFT_OF_MARK


def is_farewell(words):
    """Tell whether a whole block is a farewell."""
    return words[BEGIN] == NO_BEGIN and words[LEFT] == LEFT_OF_FAREWELL


def kind(words, place, many):
    """Tell what these words are in this place of a disk of many blocks: "empty", "whole" or "torn"."""
    first, last = words[0], words[-1]
    if first == 0 and last == 0:
        return "empty"
    if first == last and first >= many and first % many == place:
        return "whole"
    return "torn"


def pieces(row):
    """Tell the data of a row, three words for each of its blocks."""
    data = [len(row), *row]
    while len(data) % PIECE_WORDS != 0:
        data.append(0)
    return [data[at:at + PIECE_WORDS] for at in range(0, len(data), PIECE_WORDS)]


def length_of(row):
    """Tell how many blocks a row takes."""
    return len(pieces(row))


def words_of(some):
    """Tell the row that all its blocks, in order, hold."""
    data = []
    for words in some:
        data.extend(words[DATA_FROM:DATA_TO])
    many = data[0]
    return data[1:1 + many]
