"""A log of rows that goes round a disk."""

from ringlog.blocks import FLOOR, NUMBER, is_farewell, made, made_farewell, made_mark, pieces
from ringlog.errors import BadRow, Empty, Full, Gone
from ringlog.search import newest
from ringlog.standing import cut_in, rows_in
from ringlog.whole import is_whole

MOST_WORDS = 11
MOST_WORD_OF_ROW = 999999999


def _is_row(row):
    if not isinstance(row, list) or len(row) > MOST_WORDS:
        return False
    return all([is_whole(word, 0, MOST_WORD_OF_ROW) for word in row])


def _blocks_of_use(disk, number):
    """Read the blocks behind the floor of the newest one, which has this number, in order."""
    many = disk.blocks()
    if number < many:
        return []
    last = disk.read(number % many)
    found = [disk.read(earlier % many) for earlier in range(last[FLOOR] + 1, number)]
    found.append(last)
    return found


def _floor_under(rows, number):
    """Tell the floor where these rows stand and the newest block has this number."""
    if not rows:
        return number
    begin, _ = rows[0]
    return begin - 1


class Log:
    """A log that comes up on a disk of noughts, or one that logs have written."""

    def __init__(self, disk):
        number, torn = newest(disk)
        blocks = _blocks_of_use(disk, number)
        self._disk = disk
        self._number = number
        self._torn = torn
        self._cut = cut_in(blocks)
        self._gone = len(blocks) > 0 and is_farewell(blocks[-1])
        self._rows = [] if self._gone else rows_in(blocks)

    def rows(self):
        """Tell the rows that stand, the oldest first."""
        return [list(row) for _, row in self._rows]

    def room(self):
        """Tell how many blocks a row may have now."""
        floor = _floor_under(self._rows, self._number)
        return self._disk.blocks() - 1 - (self._number - floor)

    def scars(self):
        """Tell the torn block's place, or None, and the begins of the rows cut among the blocks of use."""
        return (self._torn, list(self._cut))

    def gone(self):
        """Tell whether the log has gone to another disk."""
        return self._gone

    def put(self, row):
        """Put a row behind those that stand, and tell its begin."""
        self._need_here()
        if not _is_row(row):
            raise BadRow("a row is a list of none to eleven words from 0 to 999999999")
        data = pieces(row)
        if len(data) > self.room():
            raise Full("the row has more blocks than there is room for")
        begin = self._number + 1
        floor = _floor_under(self._rows, self._number)
        last = len(data) - 1
        for at, piece in enumerate(data):
            self._write(made(begin + at, floor, begin, last - at, piece))
        self._rows.append((begin, list(row)))
        self._wrote(begin + last, floor)
        return begin

    def take(self):
        """Take the oldest row that stands, and tell it."""
        self._need_here()
        if not self._rows:
            raise Empty("no row stands")
        _, row = self._rows[0]
        later = self._rows[1:]
        floor = _floor_under(later, self._number)
        number = self._number + 1
        self._write(made_mark(number, floor))
        self._rows = later
        self._wrote(number, floor)
        return row

    def take_all(self):
        """Take all rows that stand by one mark, by which a log that had gone is there again."""
        if self._rows or self._gone:
            self._write_end(made_mark(self._number + 1, self._number))
            self._gone = False

    def leave(self):
        """Write a farewell: the log has gone, and no row stands."""
        self._need_here()
        self._write_end(made_farewell(self._number + 1, self._number))
        self._gone = True

    def _need_here(self):
        if self._gone:
            raise Gone("the log has gone to another disk")

    def _write(self, words):
        self._disk.write(words[NUMBER] % self._disk.blocks(), words)

    def _write_end(self, words):
        """Write a mark or a farewell behind which no row stands."""
        self._write(words)
        self._rows = []
        self._wrote(words[NUMBER], words[FLOOR])

    def _wrote(self, number, floor):
        """Keep in mind that a deed wrote its blocks, up to this number, with this floor."""
        self._number = number
        # The first write behind a torn block goes over it.
        self._torn = None
        self._cut = [begin for begin in self._cut if begin > floor]
