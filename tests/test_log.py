"""Promises [1] and [3] to [7], of a log that writes: its blocks, its answers, its room and its refusals."""

import unittest

from ringlog import log as log_file
from ringlog.disk import Disk
from ringlog.errors import BadRow, Empty, Full, Gone, LogError, Stopped
from ringlog.log import Log
from tests.model import NO_ROWS, Model, check, row_of, told_by, words_on


class LogCase(unittest.TestCase):

    def assert_refused(self, disk, log, refusal, deed, *given):
        """A deed is refused with just this refusal and changes neither the log nor the disk."""
        before = (words_on(disk), disk.writes(), told_by(log))
        with self.assertRaises(LogError) as caught:
            deed(*given)
        self.assertIs(type(caught.exception), refusal)
        self.assertEqual((words_on(disk), disk.writes(), told_by(log)), before)

    def do(self, disk, log, model, row):
        """Put a row, or take where it is None, on the log and the model alike, and compare all."""
        before = disk.writes()
        if row is None:
            expected, written = model.take(), 1
            told = self.answer_of(log.take)
        else:
            written = len(model.blocks_of_put(row))
            expected = model.put(row)
            told = self.answer_of(log.put, row)
        self.assertEqual(told, expected)
        if told in ("full", "empty"):
            written = 0
        self.assertEqual(disk.writes() - before, written)
        check(self, disk, log, model)
        return told

    def answer_of(self, deed, *given):
        try:
            return deed(*given)
        except Full:
            return "full"
        except Empty:
            return "empty"


class InterfaceTest(LogCase):

    def test_the_class_is_defined_in_its_file_with_its_methods(self):
        self.assertEqual(log_file.Log.__module__, "ringlog.log")
        for name in ("rows", "room", "scars", "gone", "put", "take"):
            self.assertIn(name, vars(Log))

    def test_arguments_have_the_names_of_the_interface(self):
        log = Log(disk=Disk(4))
        self.assertEqual(log.put(row=[5]), 4)

    def test_kinds_of_what_is_told(self):
        log = Log(Disk(8))
        log.put([1, 2, 3])
        log.put([])
        self.assertIs(type(log.put([4])), int)
        self.assertIs(type(log.rows()), list)
        for row in log.rows():
            self.assertIs(type(row), list)
        self.assertIs(type(log.room()), int)
        self.assertIs(log.gone(), False)
        self.assertIs(type(log.scars()), tuple)
        self.assertIs(type(log.scars()[1]), list)
        self.assertIs(type(log.take()), list)

    def test_a_log_on_noughts(self):
        for many in range(4, 65):
            disk = Disk(many)
            log = Log(disk)
            self.assertEqual(told_by(log), ([], many - 1, (None, []), False))
            self.assertEqual(words_on(disk), [[0] * 8] * many)
            self.assertEqual(disk.writes(), 0)
            self.assert_refused(disk, log, Empty, log.take)


class BlocksTest(LogCase):

    def test_two_rounds_on_the_smallest_disk_written_out(self):
        disk = Disk(4)
        log = Log(disk)
        self.assertEqual(log.put([]), 4)
        self.assertEqual(disk.read(0), [4, 3, 4, 0, 0, 0, 0, 4])
        self.assertEqual((log.rows(), log.room()), ([[]], 2))
        self.assertEqual(log.put([7, 8, 9]), 5)
        self.assertEqual(disk.read(1), [5, 3, 5, 1, 3, 7, 8, 5])
        self.assertEqual(disk.read(2), [6, 3, 5, 0, 9, 0, 0, 6])
        self.assertEqual((log.rows(), log.room()), ([[], [7, 8, 9]], 0))
        self.assert_refused(disk, log, Full, log.put, [])
        self.assertEqual(disk.read(3), [0] * 8)
        self.assertEqual(log.take(), [])
        self.assertEqual(disk.read(3), [7, 4, 0, 0, 0, 0, 0, 7])
        self.assertEqual((log.rows(), log.room()), ([[7, 8, 9]], 0))
        self.assert_refused(disk, log, Full, log.put, [])
        self.assertEqual(log.take(), [7, 8, 9])
        self.assertEqual(disk.read(0), [8, 7, 0, 0, 0, 0, 0, 8])
        self.assertEqual((log.rows(), log.room()), ([], 3))
        self.assert_refused(disk, log, Empty, log.take)
        self.assertEqual(log.put([1, 2, 3, 4, 5, 6]), 9)
        self.assertEqual(words_on(disk), [
            [8, 7, 0, 0, 0, 0, 0, 8], [9, 8, 9, 2, 6, 1, 2, 9], [10, 8, 9, 1, 3, 4, 5, 10], [11, 8, 9, 0, 6, 0, 0, 11],
        ])
        self.assertEqual((log.rows(), log.room()), ([[1, 2, 3, 4, 5, 6]], 0))
        self.assertEqual(log.take(), [1, 2, 3, 4, 5, 6])
        self.assertEqual(disk.read(0), [12, 11, 0, 0, 0, 0, 0, 12])
        self.assertEqual((log.rows(), log.room()), ([], 3))
        self.assertEqual((disk.writes(), log.scars()), (9, (None, [])))

    def test_floors_of_some_rows_written_out(self):
        disk = Disk(12)
        log = Log(disk)
        self.assertEqual([log.put([1]), log.put(row_of(4)), log.put([2, 3])], [12, 13, 15])
        self.assertEqual([disk.read(place)[1] for place in range(4)], [11, 11, 11, 11])
        self.assertEqual(log.take(), [1])
        self.assertEqual(disk.read(4), [16, 12, 0, 0, 0, 0, 0, 16])
        self.assertEqual(log.put([]), 17)
        self.assertEqual(disk.read(5), [17, 12, 17, 0, 0, 0, 0, 17])
        self.assertEqual(log.take(), row_of(4))
        self.assertEqual(disk.read(6), [18, 14, 0, 0, 0, 0, 0, 18])
        self.assertEqual(log.take(), [2, 3])
        self.assertEqual(disk.read(7), [19, 16, 0, 0, 0, 0, 0, 19])
        self.assertEqual(log.take(), [])
        self.assertEqual(disk.read(8), [20, 19, 0, 0, 0, 0, 0, 20])
        self.assertEqual(log.room(), 11)
        self.assertEqual(log.put([6]), 21)
        self.assertEqual(disk.read(9), [21, 20, 21, 0, 1, 6, 0, 21])
        self.assertEqual(log.room(), 10)

    def test_rows_of_every_count_in_every_place(self):
        for many in (5, 6, 7, 9, 16, 64):
            for count in range(12):
                disk = Disk(many)
                log, model = Log(disk), Model(many)
                for _ in range(many + 1):
                    self.do(disk, log, model, row_of(count))
                    self.do(disk, log, model, None)
                    self.do(disk, log, model, [])
                    self.do(disk, log, model, None)

    def test_words_of_the_bounds(self):
        disk = Disk(8)
        log, model = Log(disk), Model(8)
        for row in ([0], [0] * 11, [999999999], [999999999] * 11, [0, 999999999, 0]):
            self.assertEqual(self.do(disk, log, model, row), model.number - len(row) // 3)
            self.assertEqual(self.do(disk, log, model, None), row)

    def test_many_rounds_of_small_disks(self):
        """Puts and takes in an order that steps through all counts of words and all places."""
        for many in (4, 5, 6, 7, 8, 11):
            disk = Disk(many)
            log, model = Log(disk), Model(many)
            state = many
            for step in range(60 * many):
                state = (state * 31 + 17) % 1009
                row = None if state % 5 < 2 else row_of(state % 12, step)
                self.do(disk, log, model, row)
            self.assertGreater(model.number, 8 * many)

    def test_a_large_disk_filled_and_emptied_for_some_rounds(self):
        disk = Disk(64)
        log, model = Log(disk), Model(64)
        for start in range(4):
            count = start
            while self.do(disk, log, model, row_of(count % 12, 100 * count)) != "full":
                count += 1
            for _ in range(3 + start):
                self.do(disk, log, model, None)
            self.do(disk, log, model, row_of(11))
        while self.do(disk, log, model, None) != "empty":
            pass
        self.assertGreater(model.number, 128)


class RoomTest(LogCase):

    def test_a_row_that_just_has_room_and_one_that_just_has_not(self):
        """On each disk, behind each count of rows of one block, in each place."""
        for many in range(4, 12):
            for ahead in range(many):
                for turned in range(many):
                    self.check_room(many, ahead, turned)

    def check_room(self, many, ahead, turned):
        disk = Disk(many)
        log = Log(disk)
        for _ in range(turned):
            log.put([])
            log.take()
        if turned % 2:
            log.put([])
            log.take()
        for _ in range(ahead):
            log.put([1])
        room = many - 1 - ahead
        self.assertEqual(log.room(), room)
        if room < 4:
            self.assert_refused(disk, log, Full, log.put, row_of(3 * room))
            self.assert_refused(disk, log, Full, log.put, row_of(11))
        if room > 0:
            fitting = row_of(min(3 * room - 1, 11))
            blocks = len(fitting) // 3 + 1
            log.put(fitting)
            self.assertEqual(log.room(), room - blocks)
            self.assertEqual(log.rows(), [[1]] * ahead + [fitting])

    def test_a_row_of_four_blocks_never_has_room_on_four(self):
        disk = Disk(4)
        log = Log(disk)
        for count in (9, 10, 11):
            self.assert_refused(disk, log, Full, log.put, row_of(count))
        self.assertEqual(log.put(row_of(8)), 4)
        self.assertEqual(log.room(), 0)

    def test_takes_with_no_room_and_the_rows_put_in_again(self):
        for many in (4, 5, 6, 9, 64):
            disk = Disk(many)
            log, model = Log(disk), Model(many)
            for count in (0, 2, 3, 5, 6, 8, 9, 11):
                while self.do(disk, log, model, row_of(count, model.number)) != "full":
                    pass
                while log.room() > 0:
                    self.do(disk, log, model, [])
                self.do(disk, log, model, [])
                rows = log.rows()
                for row in rows:
                    self.assertEqual(self.do(disk, log, model, None), row)
                    self.do(disk, log, model, row)
                self.assertNotEqual(log.rows(), [])
                while self.do(disk, log, model, None) != "empty":
                    pass
                self.assertEqual(log.room(), many - 1)

    def test_marks_take_room_until_the_rows_behind_them_are_taken(self):
        disk = Disk(8)
        log = Log(disk)
        for word in range(4):
            log.put([word])
        self.assertEqual(log.room(), 3)
        rooms = []
        for word in range(4):
            self.assertEqual(log.take(), [word])
            rooms.append(log.room())
        self.assertEqual(rooms, [3, 3, 3, 7])


class RefusalTest(LogCase):

    def test_what_is_no_row(self):
        for row in NO_ROWS:
            with self.subTest(row=row):
                disk = Disk(8)
                log = Log(disk)
                self.assert_refused(disk, log, BadRow, log.put, row)
                log.put([5])
                self.assert_refused(disk, log, BadRow, log.put, row)
                self.assertEqual(log.put([]), 9)

    def test_each_word_of_a_row_is_looked_at(self):
        for count in range(1, 12):
            for at in range(count):
                for word in (-1, 1000000000, True, None, "1"):
                    row = row_of(count)
                    row[at] = word
                    disk = Disk(8)
                    log = Log(disk)
                    self.assert_refused(disk, log, BadRow, log.put, row)

    def test_a_bad_row_is_told_ahead_of_full(self):
        disk = Disk(4)
        log = Log(disk)
        for row in ([0] * 12, [1, 2, 3, 4, 5, 6, 7, 8, 9, 10, -1]):
            self.assert_refused(disk, log, BadRow, log.put, row)
        log.put(row_of(8))
        for row in NO_ROWS:
            self.assert_refused(disk, log, BadRow, log.put, row)
        self.assert_refused(disk, log, Full, log.put, [])

    def test_a_bad_row_full_and_empty_are_told_ahead_of_stopped(self):
        disk = Disk(4)
        log = Log(disk)
        disk.stop_after(0, 4)
        self.assert_refused(disk, log, BadRow, log.put, [True])
        self.assert_refused(disk, log, Full, log.put, row_of(9))
        self.assert_refused(disk, log, Empty, log.take)
        with self.assertRaises(Stopped):
            log.put([5])
        again = Log(disk)
        self.assert_refused(disk, again, BadRow, again.put, [True])
        self.assert_refused(disk, again, Full, again.put, row_of(9))
        self.assert_refused(disk, again, Empty, again.take)
        self.assert_refused(disk, again, Stopped, again.put, [5])

    def test_put_and_take_on_a_stopped_disk(self):
        disk = Disk(6)
        log = Log(disk)
        log.put([5])
        disk.stop_after(0, 0)
        self.assert_stopped(log.put, [6])
        log = Log(disk)
        self.assert_refused(disk, log, Stopped, log.take)
        log = Log(disk)
        self.assert_refused(disk, log, Stopped, log.put, [6])

    def assert_stopped(self, deed, *given):
        with self.assertRaises(LogError) as caught:
            deed(*given)
        self.assertIs(type(caught.exception), Stopped)

    def test_empty(self):
        disk = Disk(5)
        log = Log(disk)
        for _ in range(12):
            self.assert_refused(disk, log, Empty, log.take)
            log.put([1])
            self.assertEqual(log.take(), [1])
        self.assert_refused(disk, log, Empty, log.take)

    def test_a_refused_deed_leaves_the_room_for_the_next(self):
        disk = Disk(4)
        log = Log(disk)
        self.assert_refused(disk, log, Full, log.put, row_of(9))
        self.assertEqual(log.put([1]), 4)
        self.assert_refused(disk, log, Full, log.put, row_of(8))
        self.assertEqual(log.put([1, 2, 3]), 5)
        self.assertEqual(log.rows(), [[1], [1, 2, 3]])


class GoneTest(LogCase):
    """Disks that end with a farewell, whose blocks are written by hand."""

    def disk_with(self, many, blocks):
        disk = Disk(many)
        for words in blocks:
            disk.write(words[0] % many, words)
        return disk

    def gone_disks(self):
        yield self.disk_with(4, [[4, 3, 0, 1, 0, 0, 0, 4]])
        yield self.disk_with(4, [[4, 3, 4, 0, 1, 5, 0, 4], [5, 4, 0, 1, 0, 0, 0, 5]])
        yield self.disk_with(4, [[4, 3, 4, 0, 1, 5, 0, 4], [5, 3, 0, 1, 0, 0, 0, 5]])
        yield self.disk_with(4, [[k, k - 1, k, 0, 1, 5, 0, k] for k in range(4, 15)] + [[15, 14, 0, 1, 0, 0, 0, 15]])
        yield self.disk_with(4, [[k, k - 1, k, 0, 1, 5, 0, k] for k in range(4, 16)] + [[16, 15, 0, 1, 0, 0, 0, 16]])
        yield self.disk_with(64, [[64, 63, 64, 0, 1, 5, 0, 64], [65, 64, 0, 1, 0, 0, 0, 65]])

    def test_a_log_that_has_gone(self):
        for disk in self.gone_disks():
            reads = disk.reads()
            log = Log(disk)
            self.assertLess(disk.reads() - reads, 12)
            self.assertIs(log.gone(), True)
            self.assertEqual(log.rows(), [])
            self.assertEqual(log.scars(), (None, []))

    def test_put_and_take_are_refused_with_gone_ahead_of_all(self):
        for disk in self.gone_disks():
            log = Log(disk)
            for row in [[5], [], row_of(11)] + NO_ROWS:
                self.assert_gone(disk, log, row)
            disk.stop_after(0, 3)
            for row in ([5], [True], row_of(11)):
                self.assert_gone(disk, log, row)

    def assert_gone(self, disk, log, row):
        before = (words_on(disk), disk.writes())
        for deed, given in ((log.put, [row]), (log.take, [])):
            with self.assertRaises(LogError) as caught:
                deed(*given)
            self.assertIs(type(caught.exception), Gone)
        self.assertEqual((words_on(disk), disk.writes()), before)
        self.assertEqual((log.rows(), log.gone()), ([], True))

    def test_a_torn_block_behind_a_farewell(self):
        for part in range(1, 8):
            disk = self.disk_with(4, [[4, 3, 4, 0, 1, 5, 0, 4], [5, 4, 0, 1, 0, 0, 0, 5]])
            disk.stop_after(0, part)
            with self.assertRaises(Stopped):
                disk.write(2, [6, 5, 0, 0, 0, 0, 0, 6])
            log = Log(disk)
            self.assertEqual((log.gone(), log.rows(), log.scars()), (True, [], (2, [])))

    def test_a_torn_farewell_is_none(self):
        for part in range(8):
            disk = self.disk_with(4, [[4, 3, 4, 0, 1, 5, 0, 4]])
            disk.stop_after(0, part)
            with self.assertRaises(Stopped):
                disk.write(1, [5, 4, 0, 1, 0, 0, 0, 5])
            log = Log(disk)
            self.assertEqual(told_by(log), ([[5]], 2, (1 if part else None, []), False))
            disk.go_on()
            self.assertEqual(log.take(), [5])

    def test_behind_a_mark_behind_a_farewell_the_log_is_there_again(self):
        disk = self.disk_with(4, [
            [4, 3, 4, 0, 1, 5, 0, 4], [5, 4, 0, 1, 0, 0, 0, 5], [6, 5, 0, 0, 0, 0, 0, 6],
        ])
        log = Log(disk)
        self.assertEqual(told_by(log), ([], 3, (None, []), False))
        self.assertEqual(log.put(row_of(8)), 7)
        self.assertEqual(disk.read(3), [7, 6, 7, 2, 8, 11, 12, 7])
        self.assertEqual(Log(disk).rows(), [row_of(8)])


class ListsTest(LogCase):

    def test_a_row_handed_in_stays_and_changed_behind_changes_nothing(self):
        disk = Disk(8)
        log, model = Log(disk), Model(8)
        for count in (0, 2, 3):
            row = row_of(count)
            log.put(row)
            self.assertEqual(row, row_of(count))
            model.put(row_of(count))
            row.append(77)
            row[0] = 78
            check(self, disk, log, model)
        for count in (0, 2, 3):
            self.assertEqual(log.take(), row_of(count))

    def test_one_list_put_twice_gives_two_rows(self):
        log = Log(Disk(8))
        row = [1]
        log.put(row)
        row[0] = 2
        log.put(row)
        row.clear()
        self.assertEqual(log.rows(), [[1], [2]])
        log.rows()[0][0] = 77
        self.assertEqual([log.take(), log.take()], [[1], [2]])

    def test_rows_told_and_changed_inside_change_nothing(self):
        disk = Disk(8)
        Log(disk).put([1, 2, 3])
        log, model = Log(disk), Model(8)
        log.put([4])
        model.put([1, 2, 3])
        model.put([4])
        rows = log.rows()
        rows[0][0] = 77
        rows[1].append(78)
        rows.append([79])
        check(self, disk, log, model)
        log.rows().clear()
        check(self, disk, log, model)
        self.assertEqual([log.take(), log.take()], [[1, 2, 3], [4]])

    def test_a_taken_row_changed_behind_changes_nothing(self):
        disk = Disk(8)
        log, model = Log(disk), Model(8)
        for row in ([1], [1], [2]):
            log.put(row)
            model.put(row)
        rows = log.rows()
        taken = log.take()
        model.take()
        taken[0] = 77
        taken.append(78)
        self.assertEqual(rows, [[1], [1], [2]])
        check(self, disk, log, model)
        self.assertEqual(log.take(), [1])

    def test_scars_told_and_changed_inside_change_nothing(self):
        disk = Disk(8)
        Log(disk).put([1])
        disk.stop_after(1, 3)
        with self.assertRaises(Stopped):
            Log(disk).put(row_of(8))
        log = Log(disk)
        disk.go_on()
        for expected in ((2, [9]), (None, [9])):
            log.scars()[1].append(77)
            log.scars()[1][0] = 78
            self.assertEqual(log.scars(), expected)
            log.put([2])


class TwoLogsTest(LogCase):

    def test_two_logs_on_two_disks_by_turns(self):
        for sizes in ((4, 4), (4, 9), (16, 5)):
            disks = [Disk(many) for many in sizes]
            logs = [Log(disk) for disk in disks]
            models = [Model(many) for many in sizes]
            state = 5
            for step in range(200):
                state = (state * 31 + 17) % 1009
                one = state % 2
                row = None if state % 5 < 2 else row_of(state % 9, step)
                self.do(disks[one], logs[one], models[one], row)
                other = 1 - one
                self.assertEqual(told_by(logs[other]), models[other].told())
                self.assertEqual(words_on(disks[other]), models[other].places)

    def test_a_twin_of_the_disk_goes_its_own_way(self):
        disk = Disk(5)
        log = Log(disk)
        log.put([1])
        twin = disk.twin()
        other = Log(twin)
        log.put([2])
        other.put([3, 4, 5])
        self.assertEqual((log.rows(), other.rows()), ([[1], [2]], [[1], [3, 4, 5]]))
        self.assertEqual((Log(disk).rows(), Log(twin).rows()), ([[1], [2]], [[1], [3, 4, 5]]))

    def test_the_same_deeds_on_disks_of_all_sizes_tell_the_same_rows(self):
        deeds = [[1], row_of(5), None, [], None, None, row_of(3), row_of(2), None, [7], None, None]
        told = []
        for many in range(5, 65):
            log = Log(Disk(many))
            answers = []
            for _ in range(6):
                for row in deeds:
                    if row is None:
                        answers.append(log.take())
                    else:
                        log.put(row)
                    answers.append(log.rows())
            told.append(answers)
        self.assertEqual(told, [told[0]] * len(told))
        self.assertEqual(told[0][2:4], [[1], [row_of(5)]])
