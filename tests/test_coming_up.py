"""Promises [8] to [10] of a log that comes up: rows, room, scars, reads and writes behind any stop."""

import unittest

from ringlog.disk import Disk
from ringlog.errors import Full, Stopped
from ringlog.log import Log
from tests.model import Model, check, check_coming_up, most_reads_of, row_of, told_by, words_on


class ComingUpCase(unittest.TestCase):

    def do(self, log, model, row):
        """Put a row, or take where it is None, and compare the answers."""
        if row is None:
            expected, told = model.take(), log.take()
        else:
            expected, told = model.put(row), log.put(row)
        self.assertEqual(told, expected)
        return told

    def stop_in(self, disk, model, row, stop):
        """A log comes up, and its put of this row, or its take, meets the stop."""
        log = Log(disk)
        disk.stop_after(*stop)
        with self.assertRaises(Stopped):
            log.take() if row is None else log.put(row)
        self.assertEqual(model.take(stop) if row is None else model.put(row, stop), "stopped")
        self.assertEqual(words_on(disk), model.places)

    def check_stopped_deed(self, disk, model, row, stop):
        """Behind the stop the rows are as before, and the deed done again is answered as without it."""
        why = (model.number, model.standing, model.cut, model.torn, row, stop)
        before = [list(words) for _, words in model.standing]
        disk, model = disk.twin(), model.copy()
        self.stop_in(disk, model, row, stop)
        check_coming_up(self, disk, model, why)
        self.assertEqual(Log(disk).rows(), before, why)
        disk.go_on()
        self.check_done_again(disk, model, row, why)
        return model

    def check_done_again(self, disk, model, row, why):
        disk, model = disk.twin(), model.copy()
        log = Log(disk)
        if row is not None and len(model.blocks_of_put(row)) > model.room():
            # Only the blocks of a row that a stop cut can have taken the room.
            self.assertNotEqual(model.cut, [], why)
            with self.assertRaises(Full):
                log.put(row)
        else:
            self.do(log, model, row)
        check(self, disk, log, model, why)


class StopTest(ComingUpCase):

    def test_a_put_stopped_at_each_write_written_out(self):
        """Of three blocks, on a disk of six that holds a row of one block."""
        row = row_of(7)
        for count in range(3):
            for part in range(8):
                disk = Disk(6)
                log = Log(disk)
                self.assertEqual(log.put([5]), 6)
                disk.stop_after(count, part)
                with self.assertRaises(Stopped):
                    log.put(row)
                place = 1 + count
                log = Log(disk)
                torn = place if part else None
                cut = [7] if count else []
                self.assertEqual(told_by(log), ([[5]], 4 - count, (torn, cut), False))
                disk.go_on()
                if count == 2:
                    with self.assertRaises(Full):
                        log.put(row)
                    self.assertEqual(log.scars(), (torn, [7]))
                    continue
                self.assertEqual(log.put(row), 7 + count)
                self.assertEqual(told_by(log), ([[5], row], 1 - count, (None, cut), False))
                self.assertEqual(told_by(Log(disk)), told_by(log))
                self.assertEqual((log.take(), log.take()), ([5], row))

    def test_a_take_stopped_written_out(self):
        for part in range(8):
            disk = Disk(4)
            log = Log(disk)
            log.put([5])
            log.put([6, 7])
            disk.stop_after(0, part)
            with self.assertRaises(Stopped):
                log.take()
            log = Log(disk)
            self.assertEqual(told_by(log), ([[5], [6, 7]], 1, (2 if part else None, []), False))
            disk.go_on()
            self.assertEqual(log.take(), [5])
            self.assertEqual(disk.read(2), [6, 4, 0, 0, 0, 0, 0, 6])
            self.assertEqual(told_by(log), ([[6, 7]], 1, (None, []), False))

    def test_a_first_put_stopped_on_an_empty_disk(self):
        for many in (4, 5, 8, 64):
            for part in range(8):
                disk = Disk(many)
                disk.stop_after(0, part)
                with self.assertRaises(Stopped):
                    Log(disk).put([5])
                log = Log(disk)
                self.assertEqual(told_by(log), ([], many - 1, (0 if part else None, []), False))
                disk.go_on()
                self.assertEqual(log.put([5]), many)
                self.assertEqual(disk.read(0), [many, many - 1, many, 0, 1, 5, 0, many])

    def test_every_deed_stopped_at_every_write_of_every_part(self):
        """On logs of all sizes of rows, in every place of small disks: a log that goes round for some rounds."""
        for many in (4, 5, 7):
            disk = Disk(many)
            log, model = Log(disk), Model(many)
            state = many
            for step in range(9 * many):
                for row in (None, row_of(1), row_of(4), row_of(6), row_of(11)):
                    self.check_all_stops(disk, model, row)
                state = (state * 31 + 17) % 1009
                row = row_of(state % 12, step)
                if len(model.blocks_of_put(row)) > model.room() or state % 3 == 0:
                    row = None if model.standing else []
                self.do(log, model, row)

    def check_all_stops(self, disk, model, row):
        if row is None:
            writes = 1 if model.standing else 0
        else:
            writes = len(model.blocks_of_put(row))
            if writes > model.room():
                return
        for count in range(writes):
            for part in range(8):
                self.check_stopped_deed(disk, model, row, (count, part))

    def test_a_stop_behind_the_last_write_of_a_deed_is_met_by_the_next(self):
        disk = Disk(6)
        log, model = Log(disk), Model(6)
        disk.stop_after(3, 4)
        self.do(log, model, row_of(3))
        check_coming_up(self, disk, model)
        self.do(log, model, None)
        check_coming_up(self, disk, model)
        with self.assertRaises(Stopped):
            log.put([])
        model.put([], (0, 4))
        check_coming_up(self, disk, model)
        self.assertEqual(told_by(Log(disk)), ([], 5, (3, []), False))

    def test_all_a_log_of_four_or_five_blocks_can_come_to(self):
        """Each state that puts, takes and stops, one behind the other, lead to, told apart by what counts."""
        for many in (4, 5, 6):
            seen = {}
            ahead = [Model(many)]
            while ahead:
                model = ahead.pop()
                if self.key_of(model) in seen:
                    continue
                seen[self.key_of(model)] = True
                disk = Disk(many)
                for place, words in enumerate(model.places):
                    disk.write(place, words)
                ahead += self.states_behind(disk, model)
            self.assertGreater(len(seen), 100)

    def key_of(self, model):
        many = model.many
        standing = tuple((model.number - begin, len(row)) for begin, row in model.standing)
        cut = tuple(model.number - begin for begin in model.cut)
        return (min(model.number, 2 * many + model.number % many), model.number - model.floor, standing, cut, model.torn)

    def states_behind(self, disk, model):
        found = []
        rows = [row_of(count) for count in (2, 3, 8, 9)]
        for row in [row for row in rows if len(model.blocks_of_put(row)) <= model.room()] + [None]:
            if row is None and not model.standing:
                continue
            after, twin = model.copy(), disk.twin()
            log = Log(twin)
            self.do(log, after, row)
            check(self, twin, log, after)
            found.append(after)
            writes = 1 if row is None else len(model.blocks_of_put(row))
            for count in range(writes):
                for part in range(8):
                    found.append(self.check_stopped_deed(disk, model, row, (count, part)))
        return found


class ManyStopsTest(ComingUpCase):

    def test_stops_one_behind_the_other_at_the_same_write(self):
        for first in range(8):
            for second in range(8):
                disk, model = Disk(4), Model(4)
                self.do(Log(disk), model, [5])
                for part in (first, second):
                    self.stop_in(disk, model, [6], (0, part))
                    check_coming_up(self, disk, model)
                    disk.go_on()
                self.assertEqual(model.torn, 1 if first or second else None)
                self.stop_in(disk, model, None, (0, first))
                check_coming_up(self, disk, model)
                self.assertEqual(Log(disk).rows(), [[5]])
                disk.go_on()
                log = Log(disk)
                self.do(log, model, None)
                check(self, disk, log, model)

    def test_rows_cut_one_behind_the_other(self):
        disk, model = Disk(12), Model(12)
        self.do(Log(disk), model, [5])
        for count, part in ((1, 3), (2, 0), (1, 7), (0, 5)):
            self.stop_in(disk, model, row_of(8), (count, part))
            disk.go_on()
            check_coming_up(self, disk, model)
        log = Log(disk)
        self.assertEqual(told_by(log), ([[5]], 6, (5, [13, 14, 16]), False))
        self.assertEqual(log.put([6]), 17)
        self.assertEqual(told_by(log), ([[5], [6]], 5, (None, [13, 14, 16]), False))
        self.assertEqual(told_by(Log(disk)), told_by(log))
        self.assertEqual(log.take(), [5])
        self.assertEqual(disk.read(6), [18, 16, 0, 0, 0, 0, 0, 18])
        self.assertEqual(told_by(log), ([[6]], 9, (None, []), False))
        self.assertEqual(told_by(Log(disk)), told_by(log))

    def test_a_cut_row_ahead_of_whole_ones(self):
        """No row stands ahead of the cut one; then rows are put, and the floor goes over it."""
        for count in (1, 2):
            disk, model = Disk(8), Model(8)
            self.stop_in(disk, model, row_of(8), (count, 2))
            check_coming_up(self, disk, model)
            log = Log(disk)
            self.assertEqual(told_by(log), ([], 7, (count, [8]), False))
            disk.go_on()
            self.assertEqual(log.put(row_of(8)), 8 + count)
            self.assertEqual(disk.read(count)[1], 7 + count)
            self.assertEqual(told_by(log), ([row_of(8)], 4, (None, []), False))
            self.assertEqual(told_by(Log(disk)), told_by(log))

    def test_a_cut_row_between_whole_ones(self):
        disk, model = Disk(8), Model(8)
        log = Log(disk)
        self.do(log, model, [1])
        self.do(log, model, [2])
        self.stop_in(disk, model, row_of(8), (2, 6))
        disk.go_on()
        log = Log(disk)
        self.assertEqual(told_by(log), ([[1], [2]], 3, (4, [10]), False))
        self.assertEqual(log.put(row_of(4)), 12)
        self.assertEqual(told_by(log), ([[1], [2], row_of(4)], 1, (None, [10]), False))
        self.assertEqual(log.take(), [1])
        self.assertEqual(told_by(log), ([[2], row_of(4)], 1, (None, [10]), False))
        self.assertEqual(told_by(Log(disk)), told_by(log))
        self.assertEqual(log.take(), [2])
        self.assertEqual(disk.read(7), [15, 11, 0, 0, 0, 0, 0, 15])
        self.assertEqual(told_by(log), ([row_of(4)], 3, (None, []), False))
        self.assertEqual(told_by(Log(disk)), told_by(log))

    def test_a_cut_row_is_never_told(self):
        """A cut row's blocks lie about, whole, while others are put and taken over and behind them."""
        for many in (4, 5, 6, 9):
            for count in (1, 2):
                disk, model = Disk(many), Model(many)
                for step in range(5 * many):
                    if model.room() > 2:
                        self.stop_in(disk, model, row_of(8, 1000 * step), (count, step % 8))
                        disk.go_on()
                    log = Log(disk)
                    if model.room() > 0:
                        self.do(log, model, [step])
                    check(self, disk, log, model)
                    if step % 3:
                        self.do(log, model, None)
                    check(self, disk, log, model)

    def test_rows_are_taken_once_and_in_order_whatever_stops(self):
        """Every deed is met by a stop or not, by turns, and is done again until it is answered."""
        for many in (4, 5, 7, 8):
            disk = Disk(many)
            put, taken = [], []
            state = many
            for step in range(300):
                state = (state * 31 + 17) % 1009
                log = Log(disk)
                disk.stop_after(state % 3, state % 8)
                try:
                    self.do_next(log, state, step, put, taken)
                except Stopped:
                    disk.go_on()
                    self.assertEqual(taken + Log(disk).rows(), put)
                    if state % 2:
                        self.do_next(Log(disk), state, step, put, taken)
                disk.go_on()
                self.assertEqual(taken + Log(disk).rows(), put)
            self.assertGreater(len(taken), 50)

    def do_next(self, log, state, step, put, taken):
        row = row_of(state % 9, step)
        if len(row) // 3 + 1 <= log.room() and state % 5 > 1:
            log.put(row)
            put.append(row)
        elif log.rows():
            taken.append(log.take())


class ReadsTest(ComingUpCase):

    def test_reads_and_writes_of_coming_up_on_disks_of_every_count(self):
        for many in range(4, 65):
            disk = Disk(many)
            log, model = Log(disk), Model(many)
            self.assertLessEqual(disk.reads(), most_reads_of(many))
            for step in range(2 * many + 2):
                row = row_of(step % 9, step)
                if step % 7 == 3 and model.standing or len(model.blocks_of_put(row)) > model.room():
                    row = None
                self.do(log, model, row)
                check_coming_up(self, disk, model)

    def test_a_full_disk_is_read_once_for_each_block_behind_the_floor(self):
        for many in range(4, 65):
            disk = Disk(many)
            log = Log(disk)
            for word in range(many - 1):
                log.put([word])
            reads = disk.reads()
            self.assertEqual(Log(disk).rows(), [[word] for word in range(many - 1)])
            self.assertLessEqual(disk.reads() - reads, most_reads_of(many) + many - 1)

    def test_few_blocks_of_use_are_few_reads(self):
        disk = Disk(64)
        log = Log(disk)
        for word in range(100):
            log.put([word])
            log.take()
        log.put(row_of(11))
        reads, writes = disk.reads(), disk.writes()
        self.assertEqual(Log(disk).rows(), [row_of(11)])
        self.assertLessEqual(disk.reads() - reads, 8 + 4)
        self.assertEqual(disk.writes(), writes)

    def test_a_log_comes_up_on_a_stopped_disk(self):
        disk = Disk(5)
        log = Log(disk)
        log.put([5])
        disk.stop_after(0, 3)
        for _ in range(3):
            self.assertEqual(Log(disk).rows(), [[5]])
        with self.assertRaises(Stopped):
            log.take()
        before = words_on(disk)
        for _ in range(3):
            self.assertEqual(told_by(Log(disk)), ([[5]], 3, (1, []), False))
        self.assertEqual(words_on(disk), before)

    def test_large_numbers(self):
        for many in (4, 7, 64):
            start = 10 ** 12 + 3
            disk = Disk(many)
            for number in range(start, start + many - 1):
                disk.write(number % many, [number, number - 1, 0, 0, 0, 0, 0, number])
            number = start + many - 1
            disk.write(number % many, [number, number - 1, number, 0, 1, 5, 0, number])
            log = Log(disk)
            self.assertEqual(told_by(log), ([[5]], many - 2, (None, []), False))
            self.assertEqual(log.put([1, 2, 3]), number + 1)
            self.assertEqual(log.take(), [5])
            place = (number + 3) % many
            self.assertEqual(disk.read(place), [number + 3, number, 0, 0, 0, 0, 0, number + 3])
            self.assertEqual(told_by(Log(disk)), ([[1, 2, 3]], many - 4, (None, []), False))


class ScarsTest(ComingUpCase):

    def test_the_torn_place_is_written_over_next(self):
        for many in (4, 5, 8):
            for ahead in range(2 * many):
                for part in range(1, 8):
                    disk, model = Disk(many), Model(many)
                    log = Log(disk)
                    for _ in range(ahead // 2):
                        self.do(log, model, [])
                        self.do(log, model, None)
                    self.do(log, model, [5])
                    self.stop_in(disk, model, [6], (0, part))
                    disk.go_on()
                    place = model.torn
                    self.assertEqual(place, (model.number + 1) % many)
                    for row in (None, [7]):
                        twin, again = disk.twin(), model.copy()
                        log = Log(twin)
                        self.assertEqual(log.scars(), (place, []))
                        self.do(log, again, row)
                        self.assertEqual(twin.read(place)[0], model.number + 1)
                        self.assertEqual(log.scars(), (None, []))
                        check(self, twin, log, again)

    def test_scars_stay_where_a_deed_is_refused_or_only_asked(self):
        disk, model = Disk(5), Model(5)
        self.do(Log(disk), model, [5])
        self.stop_in(disk, model, row_of(8), (2, 4))
        log = Log(disk)
        disk.go_on()
        for _ in range(2):
            self.assertEqual(told_by(log), ([[5]], 1, (3, [6]), False))
            with self.assertRaises(Full):
                log.put(row_of(3))
        self.do(log, model, [1])
        self.assertEqual(told_by(log), ([[5], [1]], 0, (None, [6]), False))
        check(self, disk, log, model)

    def test_told_alike_by_the_log_that_wrote_and_by_one_that_comes_up(self):
        for many in (5, 6, 9, 16):
            disk, model = Disk(many), Model(many)
            log = Log(disk)
            state = many
            for step in range(150):
                state = (state * 31 + 17) % 1009
                row = row_of(state % 12, step)
                if len(model.blocks_of_put(row)) > model.room() or state % 4 == 0:
                    row = None if model.standing else []
                if state % 3 == 1:
                    writes = 1 if row is None else len(model.blocks_of_put(row))
                    self.stop_in(disk, model, row, (state % writes, state % 8))
                    disk.go_on()
                    log = Log(disk)
                elif model.standing or row is not None and len(model.blocks_of_put(row)) <= model.room():
                    self.do(log, model, row)
                self.assertEqual(told_by(log), told_by(Log(disk)))
                check(self, disk, log, model)
