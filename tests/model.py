"""A slow log, written straight from the document, which remembers what it did and never reads a disk."""

from ringlog.log import Log


def most_reads_of(many):
    exponent = 0
    while 2 ** exponent < many:
        exponent += 1
    return 2 + exponent


def row_of(many, start=11):
    return list(range(start, start + many))


def words_on(disk):
    """The words of all places, with no trace in the disk's counts."""
    other = disk.twin()
    return [other.read(place) for place in range(other.blocks())]


def told_by(log):
    return (log.rows(), log.room(), log.scars(), log.gone())


class Model:
    """What the document says of a log on a disk of many blocks, its blocks and stops included."""

    def __init__(self, many):
        self.many = many
        self.places = [[0] * 8 for _ in range(many)]
        self.number = many - 1
        self.floor = many - 1
        self.standing = []
        self.cut = []
        self.torn = None

    def copy(self):
        other = Model(self.many)
        other.places = [list(words) for words in self.places]
        other.number, other.floor, other.torn = self.number, self.floor, self.torn
        other.standing = list(self.standing)
        other.cut = list(self.cut)
        return other

    def room(self):
        return self.many - 1 - (self.number - self._floor_of(self.standing))

    def told(self):
        return ([list(row) for _, row in self.standing], self.room(), (self.torn, list(self.cut)), False)

    def blocks_of_put(self, row):
        data = [len(row)] + row + [0] * (2 - len(row) % 3)
        begin, many = self.number + 1, len(data) // 3
        floor = self._floor_of(self.standing)
        return [
            [begin + at, floor, begin, many - 1 - at] + data[3 * at:3 * at + 3] + [begin + at]
            for at in range(many)
        ]

    def block_of_take(self):
        number = self.number + 1
        return [number, self._floor_of(self.standing[1:]), 0, 0, 0, 0, 0, number]

    def put(self, row, stop=None):
        """The begin, or "full", or "stopped" where the stop, a count and a part, is met."""
        blocks = self.blocks_of_put(row)
        if len(blocks) > self.room():
            return "full"
        begin = self.number + 1
        done = self._write(blocks, stop)
        if done == len(blocks):
            self.standing.append((begin, list(row)))
            return begin
        if done > 0:
            self.cut.append(begin)
        return "stopped"

    def take(self, stop=None):
        """The oldest row, or "empty", or "stopped"."""
        if not self.standing:
            return "empty"
        if self._write([self.block_of_take()], stop) == 0:
            return "stopped"
        return self.standing.pop(0)[1]

    def _floor_of(self, standing):
        return standing[0][0] - 1 if standing else self.number

    def _write(self, blocks, stop):
        done = len(blocks) if stop is None else min(stop[0], len(blocks))
        for words in blocks[:done]:
            self.places[words[0] % self.many] = list(words)
            self.number, self.floor, self.torn = words[0], words[1], None
        if done < len(blocks) and stop[1] > 0:
            self.torn = blocks[done][0] % self.many
            old = self.places[self.torn]
            self.places[self.torn] = blocks[done][:stop[1]] + old[stop[1]:]
        self.cut = [begin for begin in self.cut if begin > self.floor]
        return done


def check(case, disk, log, model, why=None):
    """The log, the words on its disk, and a log that comes up there are as the model says."""
    case.assertEqual(words_on(disk), model.places, why)
    case.assertEqual(told_by(log), model.told(), why)
    check_coming_up(case, disk, model, why)


def check_coming_up(case, disk, model, why=None):
    """A log that comes up there tells what the model says, reads few blocks and writes none."""
    twin = disk.twin()
    log = Log(twin)
    case.assertLessEqual(twin.reads(), most_reads_of(model.many) + model.number - model.floor, why)
    case.assertEqual(twin.writes(), 0, why)
    case.assertEqual(words_on(twin), model.places, why)
    case.assertEqual(told_by(log), model.told(), why)
