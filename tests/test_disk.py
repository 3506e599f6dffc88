"""Promise [2]: the disk, with the parts of [1] that speak of it."""

import unittest

from ringlog.disk import Disk
from ringlog.errors import BadBlock, BadDisk, BadStop, LogError, NoBlock, Stopped

MOST = 10 ** 15
NOUGHTS = [0] * 8
NO_BLOCKS = [
    [1] * 7, [1] * 9, [], (1, 2, 3, 4, 5, 6, 7, 8), "12345678", None, True, 8, {}, b"12345678",
]
NO_WORDS = [-1, MOST + 1, True, False, None, "5", "", [1], -MOST]


def block(start):
    """Eight words that differ from each other."""
    return list(range(start, start + 8))


def written(many):
    """A disk that holds block(100 * place + 1) in each place."""
    disk = Disk(many)
    for place in range(many):
        disk.write(place, block(100 * place + 1))
    return disk


def all_words(disk):
    """The words of all places, with no trace in the disk's counts."""
    other = disk.twin()
    return [other.read(place) for place in range(other.blocks())]


class DiskCase(unittest.TestCase):

    def assert_stopped(self, disk, place=0):
        """A write is refused and changes nothing."""
        before = all_words(disk)
        counts = (disk.reads(), disk.writes())
        with self.assertRaises(Stopped):
            disk.write(place, block(7001))
        self.assertEqual(all_words(disk), before)
        self.assertEqual((disk.reads(), disk.writes()), counts)

    def assert_writes(self, disk, place=0, start=9001):
        """A write comes in whole and is counted."""
        writes = disk.writes()
        self.assertIsNone(disk.write(place, block(start)))
        self.assertEqual(all_words(disk)[place], block(start))
        self.assertEqual(disk.writes(), writes + 1)

    def assert_refused(self, disk, refusal, deed, *given):
        """A deed is refused with just this refusal and changes no word and no count."""
        before = all_words(disk)
        counts = (disk.reads(), disk.writes())
        with self.assertRaises(LogError) as caught:
            deed(*given)
        self.assertIs(type(caught.exception), refusal)
        self.assertEqual(all_words(disk), before)
        self.assertEqual((disk.reads(), disk.writes()), counts)


class MakingTest(DiskCase):

    def test_a_fresh_disk_of_each_size(self):
        for many in range(4, 65):
            disk = Disk(many)
            self.assertEqual(disk.blocks(), many)
            self.assertEqual((disk.reads(), disk.writes()), (0, 0))
            for place in range(many):
                self.assertEqual(disk.read(place), NOUGHTS)
            self.assertEqual((disk.reads(), disk.writes()), (many, 0))

    def test_no_count_of_blocks(self):
        for many in (3, 65, 0, 1, -1, -4, -64, MOST, True, False, None, "", "8", [4], (4,), {}, b"8"):
            with self.subTest(many=many):
                with self.assertRaises(BadDisk):
                    Disk(many)

    def test_the_interface_stands_where_the_document_says(self):
        self.assertEqual(Disk.__module__, "ringlog.disk")
        for name in ("blocks", "read", "write", "reads", "writes", "stop_after", "go_on", "twin"):
            self.assertIn(name, vars(Disk))

    def test_arguments_have_the_names_of_the_interface(self):
        disk = Disk(many=4)
        self.assertIsNone(disk.write(place=1, words=block(1)))
        self.assertEqual(disk.read(place=1), block(1))
        self.assertIsNone(disk.stop_after(count=0, part=0))
        self.assertIsNone(disk.go_on())


class KeepingTest(DiskCase):

    def test_each_write_is_kept_in_its_place_alone(self):
        for many in (4, 5, 64):
            disk = written(many)
            expected = [block(100 * place + 1) for place in range(many)]
            self.assertEqual(all_words(disk), expected)
            disk.write(2, block(9001))
            expected[2] = block(9001)
            self.assertEqual(all_words(disk), expected)

    def test_write_tells_none(self):
        self.assertIsNone(Disk(4).write(0, block(1)))

    def test_what_is_read_is_a_plain_list_and_read_again_the_same(self):
        disk = written(4)
        self.assertIs(type(disk.read(1)), list)
        self.assertEqual(disk.read(1), disk.read(1))

    def test_words_of_the_bounds_are_kept(self):
        disk = Disk(4)
        for word in (0, 1, MOST - 1, MOST):
            for at in range(8):
                words = block(1)
                words[at] = word
                disk.write(3, words)
                self.assertEqual(disk.read(3), words)

    def test_noughts_come_over_other_words(self):
        disk = written(4)
        disk.write(0, NOUGHTS)
        self.assertEqual(disk.read(0), NOUGHTS)

    def test_words_handed_in_stay_and_changed_behind_change_nothing(self):
        disk = Disk(4)
        words = block(1)
        disk.write(0, words)
        self.assertEqual(words, block(1))
        words[3] = 77
        words.append(5)
        self.assertEqual(disk.read(0), block(1))

    def test_one_list_written_to_two_places_gives_two_blocks(self):
        disk = Disk(4)
        words = block(1)
        disk.write(0, words)
        disk.write(1, words)
        disk.write(0, block(50))
        self.assertEqual(disk.read(1), block(1))

    def test_words_told_and_changed_behind_change_nothing(self):
        for disk in (Disk(4), written(4)):
            before = all_words(disk)
            told = disk.read(0)
            told[0] = 77
            told.clear()
            self.assertEqual(all_words(disk), before)

    def test_words_handed_in_to_a_stopped_write_stay_and_change_nothing_behind(self):
        for part in range(8):
            disk = written(4)
            disk.stop_after(0, part)
            words = block(5001)
            with self.assertRaises(Stopped):
                disk.write(0, words)
            self.assertEqual(words, block(5001))
            before = all_words(disk)
            words[0] = 77
            self.assertEqual(all_words(disk), before)
            disk.read(0)[0] = 77
            self.assertEqual(all_words(disk), before)

    def test_refused_words_stay(self):
        disk = Disk(4)
        for words in ([1] * 7, [1] * 9, [1, 2, 3, 4, 5, 6, 7, -1], [1, 2, 3, 4, 5, 6, 7, True]):
            before = list(words)
            with self.assertRaises(BadBlock):
                disk.write(0, words)
            self.assertEqual(words, before)
            self.assertIs(words[-1], before[-1])


class RefusingTest(DiskCase):

    def no_places(self, many):
        return [-1, -many, many, many + 1, MOST, True, False, None, "", "0", "1", [0], (0,), {}, b"0"]

    def states(self, many):
        """A disk with no stop, one with a stop ahead, one just before its stop, one stopped."""
        ahead = written(many)
        ahead.stop_after(9, 3)
        before = written(many)
        before.stop_after(0, 3)
        stopped = written(many)
        stopped.stop_after(0, 3)
        with self.assertRaises(Stopped):
            stopped.write(0, block(5001))
        return [Disk(many), written(many), ahead, before, stopped]

    def test_places_of_the_bounds(self):
        for many in (4, 64):
            disk = Disk(many)
            for place in (0, many - 1):
                self.assert_writes(disk, place)
                self.assertEqual(disk.read(place), block(9001))

    def test_no_place_is_refused_by_read_and_write_in_every_state(self):
        for many in (4, 64):
            for disk in self.states(many):
                for place in self.no_places(many):
                    with self.subTest(many=many, place=place):
                        self.assert_refused(disk, NoBlock, disk.read, place)
                        self.assert_refused(disk, NoBlock, disk.write, place, block(1))

    def test_no_block_is_refused_in_every_state(self):
        for disk in self.states(4):
            for words in NO_BLOCKS:
                with self.subTest(words=words):
                    self.assert_refused(disk, BadBlock, disk.write, 0, words)

    def test_no_word_is_refused_wherever_it_stands_in_every_state(self):
        for disk in self.states(4):
            for word in NO_WORDS:
                for at in range(8):
                    words = block(1)
                    words[at] = word
                    with self.subTest(word=word, at=at):
                        self.assert_refused(disk, BadBlock, disk.write, 3, words)

    def test_no_place_comes_ahead_of_no_block_in_every_state(self):
        for disk in self.states(4):
            for place in self.no_places(4):
                for words in NO_BLOCKS + [[1, 2, 3, 4, 5, 6, 7, -1]]:
                    self.assert_refused(disk, NoBlock, disk.write, place, words)

    def test_a_refused_write_neither_uses_up_nor_meets_a_stop(self):
        disk = written(4)
        disk.stop_after(1, 3)
        for _ in range(3):
            self.assert_refused(disk, NoBlock, disk.write, 4, block(1))
            self.assert_refused(disk, BadBlock, disk.write, 0, [1] * 7)
        self.assert_writes(disk, 0)
        for _ in range(3):
            self.assert_refused(disk, NoBlock, disk.write, 4, block(1))
            self.assert_refused(disk, BadBlock, disk.write, 1, [1] * 7)
        with self.assertRaises(Stopped):
            disk.write(1, block(5001))
        # The part still came in, so it was this write that met the stop.
        self.assertEqual(disk.read(1), block(5001)[:3] + block(101)[3:])


class StoppingTest(DiskCase):

    def test_every_part_of_the_stopped_write_comes_in_and_no_more(self):
        for part in range(8):
            for count in (0, 1, 2, 5):
                with self.subTest(part=part, count=count):
                    disk = written(4)
                    self.assertIsNone(disk.stop_after(count, part))
                    for step in range(count):
                        self.assert_writes(disk, step % 3, 9001 + step)
                    before = all_words(disk)
                    with self.assertRaises(Stopped):
                        disk.write(3, block(5001))
                    before[3] = block(5001)[:part] + block(301)[part:]
                    self.assertEqual(all_words(disk), before)

    def test_the_stopped_write_to_a_place_of_noughts(self):
        for part in range(8):
            disk = Disk(4)
            disk.stop_after(0, part)
            with self.assertRaises(Stopped):
                disk.write(2, block(1))
            expected = block(1)[:part] + [0] * (8 - part)
            self.assertEqual(all_words(disk), [NOUGHTS, NOUGHTS, expected, NOUGHTS])

    def test_writes_behind_the_stop_change_nothing_not_even_in_part(self):
        for part in range(8):
            disk = written(4)
            disk.stop_after(0, part)
            with self.assertRaises(Stopped):
                disk.write(1, block(5001))
            for place in (0, 1, 2, 3, 1, 0):
                self.assert_stopped(disk, place)

    def test_a_stopped_disk_is_read_as_ever(self):
        disk = written(4)
        disk.stop_after(0, 2)
        with self.assertRaises(Stopped):
            disk.write(0, block(5001))
        reads = disk.reads()
        self.assertEqual(disk.read(0), block(5001)[:2] + block(1)[2:])
        self.assertEqual(disk.read(3), block(301))
        self.assertEqual(disk.reads(), reads + 2)

    def test_reads_do_not_use_up_a_stop(self):
        disk = written(4)
        disk.stop_after(1, 0)
        for _ in range(5):
            disk.read(0)
        self.assert_writes(disk)
        self.assert_stopped(disk)

    def test_go_on_lets_a_stopped_disk_write_again(self):
        disk = written(4)
        disk.stop_after(0, 5)
        with self.assertRaises(Stopped):
            disk.write(0, block(5001))
        before = all_words(disk)
        self.assertIsNone(disk.go_on())
        self.assertEqual(all_words(disk), before)
        for step in range(20):
            self.assert_writes(disk, step % 4)

    def test_go_on_of_a_disk_with_no_stop_changes_nothing(self):
        disk = written(4)
        before = all_words(disk)
        disk.go_on()
        self.assertEqual(all_words(disk), before)
        self.assert_writes(disk)

    def test_behind_go_on_a_stop_that_was_not_met_holds_no_more(self):
        disk = written(4)
        disk.stop_after(2, 5)
        self.assert_writes(disk)
        disk.go_on()
        for _ in range(5):
            self.assert_writes(disk)

    def test_a_stop_told_behind_go_on_holds(self):
        disk = written(4)
        disk.stop_after(0, 5)
        self.assert_stopped_with(disk, 0, 5, block(1))
        disk.go_on()
        disk.stop_after(1, 6)
        self.assert_writes(disk, 0)
        self.assert_stopped_with(disk, 1, 6, block(101))

    def assert_stopped_with(self, disk, place, part, old):
        """The next write meets the stop: part of its words come in."""
        with self.assertRaises(Stopped):
            disk.write(place, block(6001))
        self.assertEqual(disk.read(place), block(6001)[:part] + old[part:])
        self.assert_stopped(disk, place)

    def test_told_anew_ahead_of_it_the_last_stop_alone_holds(self):
        for first, second in (((0, 2), (2, 6)), ((3, 7), (0, 1)), ((5, 0), (1, 4)), ((1, 3), (1, 5))):
            disk = written(4)
            disk.stop_after(*first)
            disk.stop_after(*second)
            for _ in range(second[0]):
                self.assert_writes(disk, 0)
            self.assert_stopped_with(disk, 3, second[1], block(301))

    def test_told_anew_between_two_writes_the_count_begins_again(self):
        disk = written(4)
        disk.stop_after(2, 1)
        self.assert_writes(disk, 0)
        disk.stop_after(2, 4)
        self.assert_writes(disk, 0)
        self.assert_writes(disk, 1)
        self.assert_stopped_with(disk, 3, 4, block(301))

    def test_told_anew_behind_a_stop_that_was_met_so_many_writes_are_let_be_again(self):
        for count in range(4):
            for part in range(8):
                disk = written(4)
                disk.stop_after(0, 2)
                self.assert_stopped_with(disk, 0, 2, block(1))
                disk.stop_after(count, part)
                for _ in range(count):
                    self.assert_writes(disk, 1)
                self.assert_stopped_with(disk, 3, part, block(301))

    def test_counts_and_parts_of_the_bounds(self):
        disk = written(4)
        self.assertIsNone(disk.stop_after(MOST, 7))
        for _ in range(10):
            self.assert_writes(disk)
        self.assertIsNone(disk.stop_after(MOST, 0))
        self.assert_writes(disk)
        self.assertIsNone(disk.stop_after(0, 7))
        self.assert_stopped_with(disk, 3, 7, block(301))
        self.assertIsNone(disk.stop_after(0, 0))
        self.assert_stopped_with(disk, 2, 0, block(201))

    def test_no_stop_is_refused_and_the_told_one_holds(self):
        bad = [(count, 3) for count in (-1, MOST + 1, True, False, None, "", "1", [1])]
        bad += [(1, part) for part in (-1, 8, MOST, True, False, None, "", "1", [1])]
        bad += [(-1, 8), (True, True), (None, None)]
        for count, part in bad:
            with self.subTest(count=count, part=part):
                disk = written(4)
                self.assert_refused(disk, BadStop, disk.stop_after, count, part)
                for _ in range(4):
                    self.assert_writes(disk, 0)
                disk.stop_after(1, 4)
                self.assert_refused(disk, BadStop, disk.stop_after, count, part)
                self.assert_writes(disk, 1)
                self.assert_refused(disk, BadStop, disk.stop_after, count, part)
                self.assert_stopped_with(disk, 3, 4, block(301))
                self.assert_refused(disk, BadStop, disk.stop_after, count, part)
                self.assert_stopped(disk, 2)


class CountingTest(DiskCase):

    def test_reads_and_writes_are_counted_apart(self):
        disk = Disk(4)
        for step in range(5):
            disk.write(step % 4, block(1))
            self.assertEqual((disk.reads(), disk.writes()), (0, step + 1))
        for step in range(7):
            disk.read(step % 4)
            self.assertEqual((disk.reads(), disk.writes()), (step + 1, 5))

    def test_what_is_refused_is_not_counted(self):
        disk = Disk(4)
        disk.write(0, block(1))
        disk.read(0)
        for refusal, deed, given in (
            (NoBlock, disk.read, (4,)), (NoBlock, disk.write, (4, block(1))),
            (BadBlock, disk.write, (0, [1] * 7)), (BadStop, disk.stop_after, (0, 8)),
        ):
            with self.assertRaises(refusal):
                deed(*given)
            self.assertEqual((disk.reads(), disk.writes()), (1, 1))

    def test_a_stopped_write_is_not_counted_nor_are_those_behind_it(self):
        for part in range(8):
            disk = Disk(4)
            disk.stop_after(2, part)
            for place in range(2):
                disk.write(place, block(1))
            for _ in range(4):
                with self.assertRaises(Stopped):
                    disk.write(2, block(1))
                self.assertEqual((disk.reads(), disk.writes()), (0, 2))

    def test_neither_a_stop_nor_go_on_nor_a_twin_nor_blocks_is_counted(self):
        disk = written(4)
        disk.read(0)
        disk.stop_after(0, 1)
        disk.go_on()
        disk.twin()
        disk.blocks()
        disk.stop_after(3, 1)
        self.assertEqual((disk.reads(), disk.writes()), (1, 4))


class TwinTest(DiskCase):

    def test_a_twin_is_another_disk_with_the_same_words(self):
        for many in (4, 17, 64):
            for disk in (Disk(many), written(many)):
                expected = [disk.read(place) for place in range(many)]
                twin = disk.twin()
                self.assertIs(type(twin), Disk)
                self.assertIsNot(twin, disk)
                self.assertEqual(twin.blocks(), many)
                self.assertEqual((twin.reads(), twin.writes()), (0, 0))
                self.assertEqual([twin.read(place) for place in range(many)], expected)

    def test_what_is_done_to_one_of_two_twins_leaves_the_other_as_it_is(self):
        for changed, kept in ((0, 1), (1, 0)):
            disk = written(4)
            pair = [disk, disk.twin()]
            counts = (pair[kept].reads(), pair[kept].writes())
            pair[changed].write(1, block(9001))
            pair[changed].read(2)
            pair[changed].stop_after(0, 3)
            with self.assertRaises(Stopped):
                pair[changed].write(2, block(9001))
            self.assertEqual((pair[kept].reads(), pair[kept].writes()), counts)
            self.assertEqual(all_words(pair[kept]), all_words(written(4)))
            for _ in range(3):
                self.assert_writes(pair[kept], 0)
            self.assert_stopped(pair[changed])

    def test_the_twin_of_a_stopped_disk_may_go_on_and_the_disk_may_not(self):
        for part in range(8):
            disk = written(4)
            disk.stop_after(0, part)
            with self.assertRaises(Stopped):
                disk.write(0, block(5001))
            twin = disk.twin()
            self.assertEqual((twin.reads(), twin.writes()), (0, 0))
            self.assertEqual(twin.read(0), block(5001)[:part] + block(1)[part:])
            for _ in range(3):
                self.assert_writes(twin, 0)
            self.assert_stopped(disk, 0)

    def test_the_twin_of_a_disk_with_a_stop_ahead_has_none(self):
        disk = written(4)
        disk.stop_after(1, 3)
        twin = disk.twin()
        for _ in range(4):
            self.assert_writes(twin, 0)
        self.assert_writes(disk, 0)
        self.assert_stopped_once(disk)

    def assert_stopped_once(self, disk):
        with self.assertRaises(Stopped):
            disk.write(1, block(6001))
        self.assertEqual(disk.read(1), block(6001)[:3] + block(101)[3:])

    def test_go_on_of_one_twin_leaves_the_other_stopped(self):
        disk = written(4)
        twin = disk.twin()
        for one in (disk, twin):
            one.stop_after(0, 0)
            self.assert_stopped(one)
        twin.go_on()
        self.assert_stopped(disk)
        self.assert_writes(twin)

    def test_a_twin_of_a_twin(self):
        disk = written(4)
        twin = disk.twin()
        twin.write(0, block(9001))
        third = twin.twin()
        third.write(1, block(9101))
        self.assertEqual(all_words(disk)[:2], [block(1), block(101)])
        self.assertEqual(all_words(twin)[:2], [block(9001), block(101)])
        self.assertEqual(all_words(third)[:2], [block(9001), block(9101)])
