"""A disk of a few blocks, which can be told to stop in the midst of a write."""

from ringlog.errors import BadBlock, BadDisk, BadStop, NoBlock, Stopped
from ringlog.whole import is_whole

LEAST_BLOCKS = 4
MOST_BLOCKS = 64
BLOCK_WORDS = 8
MOST_WORD = 10 ** 15
MOST_COUNT = 10 ** 15
MOST_PART = 7


def _is_block(words):
    if not isinstance(words, list) or len(words) != BLOCK_WORDS:
        return False
    return all([is_whole(word, 0, MOST_WORD) for word in words])


class Disk:
    """A disk of many blocks, at first noughts."""

    def __init__(self, many):
        if not is_whole(many, LEAST_BLOCKS, MOST_BLOCKS):
            raise BadDisk("a disk has 4 to 64 blocks")
        self._blocks = [[0] * BLOCK_WORDS for _ in range(many)]
        self._reads = 0
        self._writes = 0
        # How many writes more are let be before the stop; None where no stop is told.
        self._let = None
        self._part = 0

    def blocks(self):
        """Tell how many blocks the disk has."""
        return len(self._blocks)

    def read(self, place):
        """Tell the words of the block in this place, in a list of their own."""
        self._need_place(place)
        self._reads += 1
        return list(self._blocks[place])

    def write(self, place, words):
        """Write eight words over the block in this place."""
        self._need_place(place)
        if not _is_block(words):
            raise BadBlock("a block is a list of eight words from 0 to 10 ** 15")
        if self._let == 0:
            self._write_part(place, words)
            raise Stopped("the disk has stopped")
        self._blocks[place] = list(words)
        self._writes += 1
        if self._let is not None:
            self._let -= 1

    def reads(self):
        """Tell how many reads were not refused."""
        return self._reads

    def writes(self):
        """Tell how many writes were not refused."""
        return self._writes

    def stop_after(self, count, part):
        """Let count writes more be; of the next one only the first words come in, as many as part."""
        if not is_whole(count, 0, MOST_COUNT):
            raise BadStop("a stop's count is from 0 to 10 ** 15")
        if not is_whole(part, 0, MOST_PART):
            raise BadStop("a stop's part is from 0 to 7")
        self._let = count
        self._part = part

    def go_on(self):
        """Let the disk go on: no stop holds any more."""
        self._let = None

    def twin(self):
        """Tell another disk with the same words, of no reads and writes, that may go on."""
        other = Disk(self.blocks())
        other._blocks = [list(words) for words in self._blocks]
        return other

    def _need_place(self, place):
        if not is_whole(place, 0, len(self._blocks) - 1):
            raise NoBlock("no such place on the disk")

    def _write_part(self, place, words):
        self._blocks[place] = words[:self._part] + self._blocks[place][self._part:]
        # Of the writes behind the one that met the stop, no word comes in.
        self._part = 0
