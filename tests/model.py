"""A slow log, written straight from the document, which remembers what it did and never reads a disk."""

from ringlog.errors import LogError
from ringlog.log import Log

# What is no row, of every kind.
NO_ROWS = [
    None, True, False, 0, 5, "", "12", "123", (), (1, 2), {}, {1: 2}, b"12", [-1], [1000000000], [True], [False],
    [None], ["5"], [""], [[1]], [(1,)], [5, -1], [1, 2, 3, 4, 5, 6, 7, 8, 9, 10, 1000000000], [0] * 12, [0] * 13,
    [-999999999], [10 ** 15], [1, True, 2], [0, 0, None], list(range(100)), [True] * 12,
]


def most_reads_of(many):
    exponent = 0
    while 2 ** exponent < many:
        exponent += 1
    return 2 + exponent


def row_of(many, start=11):
    return list(range(start, start + many))


def blocks_of_row(row, begin, floor):
    data = [len(row)] + row + [0] * (2 - len(row) % 3)
    many = len(data) // 3
    return [
        [begin + at, floor, begin, many - 1 - at] + data[3 * at:3 * at + 3] + [begin + at]
        for at in range(many)
    ]


def words_on(disk):
    """The words of all places, with no trace in the disk's counts."""
    other = disk.twin()
    return [other.read(place) for place in range(other.blocks())]


def told_by(log):
    """What a log tells; the room of one that has gone is not promised."""
    room = None if log.gone() else log.room()
    return (log.rows(), room, log.scars(), log.gone())


def answer_of(deed, *given):
    """What a deed tells, or its refusal's name in small letters."""
    try:
        return deed(*given)
    except LogError as refusal:
        return type(refusal).__name__.lower()


class Model:
    """What the document says of a log on a disk of many blocks, its blocks and stops included."""

    def __init__(self, many):
        self.many = many
        self.places = [[0] * 8 for _ in range(many)]
        self.number = many - 1
        self.floor = many - 1
        self.standing = []
        self.cut = []
        self.torn = None
        self.gone = False

    def copy(self):
        other = Model(self.many)
        other.places = [list(words) for words in self.places]
        other.number, other.floor, other.torn = self.number, self.floor, self.torn
        other.standing = list(self.standing)
        other.cut = list(self.cut)
        other.gone = self.gone
        return other

    def room(self):
        return self.many - 1 - (self.number - self._floor_of(self.standing))

    def rows(self):
        return [list(row) for _, row in self.standing]

    def told(self):
        room = None if self.gone else self.room()
        return (self.rows(), room, (self.torn, list(self.cut)), self.gone)

    def blocks_of_put(self, row):
        return blocks_of_row(row, self.number + 1, self._floor_of(self.standing))

    def block_of_take(self):
        return self._mark(self.number + 1, self._floor_of(self.standing[1:]))

    def block_of_farewell(self):
        number = self.number + 1
        return [number, self.number, 0, 1, 0, 0, 0, number]

    def blocks_of_carry(self, rows):
        """The blocks that carry writes here, the new disk: none of them has a floor below the mark's number."""
        blocks = []
        if self.standing or self.gone:
            blocks.append(self._mark(self.number + 1, self.number))
        floor = self.number + len(blocks)
        for row in rows:
            blocks += blocks_of_row(row, self.number + len(blocks) + 1, floor)
        return blocks

    def put(self, row, stop=None):
        """The begin, or "gone" or "full", or "stopped" where the stop, a count and a part, is met."""
        if self.gone:
            return "gone"
        blocks = self.blocks_of_put(row)
        if len(blocks) > self.room():
            return "full"
        begin = self.number + 1
        done = self._write(blocks, stop)
        self._see_rows(blocks[:done])
        return begin if done == len(blocks) else "stopped"

    def take(self, stop=None):
        """The oldest row, or "gone" or "empty", or "stopped"."""
        if self.gone:
            return "gone"
        if not self.standing:
            return "empty"
        if self._write([self.block_of_take()], stop) == 0:
            return "stopped"
        return self.standing.pop(0)[1]

    def bring(self, rows, stop=None):
        """Carry's deeds on the new disk: None, or "stopped"."""
        blocks = self.blocks_of_carry(rows)
        done = self._write(blocks, stop)
        if done > 0:
            self.standing, self.gone = [], False
        self._see_rows(blocks[:done])
        return None if done == len(blocks) else "stopped"

    def leave(self, stop=None):
        """Carry's deed on the old disk: None, or "stopped"."""
        if self._write([self.block_of_farewell()], stop) == 0:
            return "stopped"
        self.standing, self.gone = [], True
        return None

    def _mark(self, number, floor):
        return [number, floor, 0, 0, 0, 0, 0, number]

    def _floor_of(self, standing):
        return standing[0][0] - 1 if standing else self.number

    def _see_rows(self, blocks):
        """These blocks were written: the rows that are all there stand, one that is not was cut."""
        row = []
        for number, _, begin, left, *data, _ in blocks:
            if begin == 0:
                continue
            row = data if number == begin else row + data
            if left == 0:
                self.standing.append((begin, row[1:1 + row[0]]))
        if blocks and blocks[-1][2] != 0 and blocks[-1][3] != 0:
            self.cut.append(blocks[-1][2])

    def _write(self, blocks, stop):
        done = len(blocks) if stop is None else min(stop[0], len(blocks))
        for words in blocks[:done]:
            self.places[words[0] % self.many] = list(words)
            self.number, self.floor, self.torn = words[0], words[1], None
        if done < len(blocks) and stop[1] > 0:
            self.torn = blocks[done][0] % self.many
            old = self.places[self.torn]
            self.places[self.torn] = blocks[done][:stop[1]] + old[stop[1]:]
        self.cut = [begin for begin in self.cut if begin > self.floor]
        return done


def carry_models(old, new, old_stop=None, new_stop=None):
    """What carry tells of two models, and does to them; each stop is a count and a part."""
    if old.gone:
        return "gone"
    rows = old.rows()
    if sum(len(row) // 3 + 1 for row in rows) > new.many - 1:
        return "full"
    return new.bring(rows, new_stop) or old.leave(old_stop)


def check(case, disk, log, model, why=None):
    """The log, the words on its disk, and a log that comes up there are as the model says."""
    case.assertEqual(words_on(disk), model.places, why)
    case.assertEqual(told_by(log), model.told(), why)
    check_coming_up(case, disk, model, why)


def check_coming_up(case, disk, model, why=None):
    """A log that comes up there tells what the model says, reads few blocks and writes none."""
    twin = disk.twin()
    log = Log(twin)
    case.assertLessEqual(twin.reads(), most_reads_of(model.many) + model.number - model.floor, why)
    case.assertEqual(twin.writes(), 0, why)
    case.assertEqual(words_on(twin), model.places, why)
    case.assertEqual(told_by(log), model.told(), why)
