"""The picture of a disk: a line for each place, by promises [3], [4] and [6]."""

import unittest

from ringlog import notes
from ringlog.carrying import carry
from ringlog.disk import Disk
from ringlog.errors import LogError, Stopped
from ringlog.log import Log
from ringlog.notes import picture
from tests.model import Model, row_of, words_on


def disk_of(many, blocks):
    """A disk with these words in these places."""
    disk = Disk(many)
    for place, words in blocks:
        disk.write(place, words)
    return disk


def line_of(place, words, many):
    """The line of a place, told once more from the document."""
    number, floor, begin, left, *_, last = words
    if number == last == 0:
        shown = ["empty"]
    elif number != last or number < many or number % many != place:
        shown = ["torn"]
    elif (begin, left) == (0, 0):
        shown = ["mark", number, floor]
    elif (begin, left) == (0, 1):
        shown = ["farewell", number, floor]
    else:
        shown = ["row"] + words[:7]
    return " ".join(str(word) for word in [place] + shown)


def turned_disk(many, turned):
    """A disk whose log wrote as many blocks, each of a row or a mark."""
    disk = Disk(many)
    log = Log(disk)
    for _ in range(turned // 2):
        log.put([5])
        log.take()
    if turned % 2 == 1:
        log.put([5])
    return disk


class PictureTest(unittest.TestCase):

    def check(self, disk):
        """The picture is what the words on the disk say, and is the same told again."""
        words, writes = words_on(disk), disk.writes()
        many = disk.blocks()
        told = picture(disk)
        self.assertIs(type(told), str)
        self.assertEqual(told.split("\n"), [line_of(place, words[place], many) for place in range(many)])
        self.assertEqual(picture(disk), told)
        self.assertEqual((words_on(disk), disk.writes()), (words, writes))
        return told

    def test_the_function_is_defined_in_its_file(self):
        self.assertEqual(notes.picture.__module__, "ringlog.notes")
        self.assertEqual(picture(disk=Disk(4)), "0 empty\n1 empty\n2 empty\n3 empty")

    def test_disks_of_noughts(self):
        for many in range(4, 65):
            expected = "\n".join(f"{place} empty" for place in range(many))
            self.assertEqual(self.check(Disk(many)), expected)

    def test_one_of_each_written_out(self):
        disk = Disk(8)
        log = Log(disk)
        log.put([5])
        log.put([1, 2, 3, 4, 999999999])
        log.take()
        disk.stop_after(1, 4)
        with self.assertRaises(Stopped):
            log.put([7, 8, 9])
        self.assertEqual(self.check(disk), "\n".join([
            "0 row 8 7 8 0 1 5 0",
            "1 row 9 7 9 1 5 1 2",
            "2 row 10 7 9 0 3 4 999999999",
            "3 mark 11 8",
            "4 row 12 8 12 1 3 7 8",
            "5 torn",
            "6 empty",
            "7 empty",
        ]))
        disk.go_on()
        carry(disk, Disk(64))
        told = picture(disk).split("\n")
        self.assertEqual(told[4:], ["4 row 12 8 12 1 3 7 8", "5 farewell 13 12", "6 empty", "7 empty"])

    def test_a_row_of_no_words_and_one_of_noughts(self):
        disk = Disk(4)
        log = Log(disk)
        log.put([])
        log.put([0, 0, 0])
        self.assertEqual(self.check(disk), "0 row 4 3 4 0 0 0 0\n1 row 5 3 5 1 3 0 0\n2 row 6 3 5 0 0 0 0\n3 empty")

    def test_puts_and_takes_in_every_place_over_some_rounds(self):
        for many in (4, 5, 7, 10, 64):
            disk = Disk(many)
            log, model = Log(disk), Model(many)
            state = many
            for step in range(6 * many):
                state = (state * 31 + 17) % 1009
                row = row_of(state % 12, step)
                if state % 3 == 0 or len(model.blocks_of_put(row)) > model.room():
                    row = None if model.standing else []
                if row is None:
                    log.take()
                    model.take()
                else:
                    log.put(row)
                    model.put(row)
                expected = [line_of(place, model.places[place], many) for place in range(many)]
                self.assertEqual(self.check(disk).split("\n"), expected)

    def test_a_torn_block_of_every_part_in_every_place(self):
        for many in (4, 6):
            for turned in range(3 * many):
                disk = turned_disk(many, turned)
                place = turned % many
                before = picture(disk).split("\n")
                for part in range(8):
                    twin = disk.twin()
                    twin.stop_after(0, part)
                    with self.assertRaises(LogError):
                        Log(twin).put([6])
                    expected = list(before)
                    if part > 0:
                        expected[place] = f"{place} torn"
                    self.assertEqual(self.check(twin).split("\n"), expected)

    def test_a_farewell_in_every_place_and_the_mark_behind_it(self):
        for many in (4, 5, 9):
            for turned in range(2 * many + 1):
                disk, other = turned_disk(many, turned), Disk(64)
                carry(disk, other)
                number = many + turned
                self.assertIn(f"{number % many} farewell {number} {number - 1}", self.check(disk).split("\n"))
                carry(other, disk)
                number += 1
                self.assertIn(f"{number % many} mark {number} {number - 1}", self.check(disk).split("\n"))

    def test_blocks_by_hand_in_another_place_or_below_the_count(self):
        for many in (4, 5, 8):
            for place in range(many):
                for number in range(1, 3 * many):
                    for middle in ([3, number, 0, 1, 5, 0], [3, 0, 0, 0, 0, 0], [3, 0, 1, 0, 0, 0], [0] * 6):
                        disk = disk_of(many, [(place, [number] + middle + [number])])
                        told = self.check(disk).split("\n")
                        belongs = number >= many and number % many == place
                        self.assertEqual(told[place] == f"{place} torn", not belongs)

    def test_blocks_by_hand_whose_first_and_last_word_differ(self):
        for first, last in ((4, 8), (8, 4), (0, 4), (4, 0), (3, 4), (4, 5), (0, 1), (10 ** 15, 0), (4, 10 ** 15)):
            disk = disk_of(4, [(0, [first, 3, 4, 0, 1, 5, 0, last])])
            self.assertEqual(self.check(disk), "0 torn\n1 empty\n2 empty\n3 empty")

    def test_only_the_first_and_the_last_word_make_a_place_empty(self):
        disk = disk_of(4, [(1, [0, 1, 2, 3, 4, 5, 6, 0]), (2, [0, 0, 0, 0, 0, 0, 10 ** 15, 0])])
        self.assertEqual(self.check(disk), "0 empty\n1 empty\n2 empty\n3 empty")

    def test_large_numbers(self):
        start = 10 ** 12
        for many in (4, 7, 64):
            disk = disk_of(many, [
                (number % many, [number, number - 1, 0, 0, 0, 0, 0, number]) for number in range(start, start + many)
            ])
            log = Log(disk)
            self.assertEqual(log.put([1, 2, 3]), start + many)
            number = start + many
            told = self.check(disk).split("\n")
            self.assertIn(f"{number % many} row {number} {number - 1} {number} 1 3 1 2", told)
            self.assertIn(f"{(number + 2) % many} mark {number + 2 - many} {number + 1 - many}", told)
            carry(disk, Disk(5))
            number += 2
            self.assertIn(f"{number % many} farewell {number} {number - 1}", self.check(disk).split("\n"))
        words = [10 ** 15, 10 ** 15 - 1, 10 ** 15, 0, 1, 5, 0, 10 ** 15]
        self.assertIn(f"0 row {10 ** 15} {10 ** 15 - 1} {10 ** 15} 0 1 5 0", self.check(disk_of(8, [(0, words)])))

    def test_a_stopped_disk_is_shown_too(self):
        disk = Disk(4)
        disk.stop_after(0, 0)
        self.check(disk)
        with self.assertRaises(Stopped):
            Log(disk).put([5])
        self.assertEqual(self.check(disk), "0 empty\n1 empty\n2 empty\n3 empty")
