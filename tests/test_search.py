"""Promise [8]: the newest whole block is found by few reads."""

import unittest

from ringlog import search
from ringlog.disk import Disk
from ringlog.errors import Stopped
from ringlog.search import most_reads, newest
from tests.model import most_reads_of, words_on


def block_of(number, shape):
    """A block with this number: of a row of one block, of a longer one, a mark or a farewell."""
    if shape == 0:
        return [number, number - 1, number, 0, 2, 999999999, 5, number]
    if shape == 1:
        return [number, number - 3, number - 1, 2, 7, 0, 8, number]
    return [number, number - 1, 0, shape - 2, 0, 0, 0, number]


class InterfaceTest(unittest.TestCase):

    def test_each_function_is_defined_in_its_file(self):
        for name in ("most_reads", "newest"):
            self.assertEqual(getattr(search, name).__module__, "ringlog.search")

    def test_arguments_have_the_names_of_the_interface(self):
        self.assertEqual(most_reads(many=4), 4)
        self.assertEqual(newest(disk=Disk(4)), (3, None))


class MostReadsTest(unittest.TestCase):

    def test_small_counts_written_out(self):
        expected = {
            1: 2, 2: 3, 3: 4, 4: 4, 5: 5, 6: 5, 7: 5, 8: 5, 9: 6, 16: 6, 17: 7, 31: 7, 32: 7, 33: 8,
            63: 8, 64: 8, 65: 9,
        }
        for many, most in expected.items():
            self.assertEqual(most_reads(many), most, many)

    def test_every_count_up_to_some_thousands(self):
        for many in range(1, 5000):
            self.assertEqual(most_reads(many), most_reads_of(many), many)

    def test_about_large_powers_of_two(self):
        for exponent in list(range(2, 200)) + [500, 1023, 1024, 1025, 4000, 20000]:
            self.assertEqual(most_reads(2 ** exponent - 1), 2 + exponent)
            self.assertEqual(most_reads(2 ** exponent), 2 + exponent)
            self.assertEqual(most_reads(2 ** exponent + 1), 3 + exponent)

    def test_it_is_a_plain_number(self):
        for many in (1, 2, 64, 10 ** 40):
            self.assertIs(type(most_reads(many)), int)


class NewestTest(unittest.TestCase):

    def assert_newest(self, disk, expected):
        """newest tells this, twice, by few reads, and leaves the disk as it is."""
        before = words_on(disk)
        writes = disk.writes()
        for _ in range(2):
            reads = disk.reads()
            told = newest(disk)
            self.assertEqual(told, expected)
            self.assertIs(type(told), tuple)
            self.assertLessEqual(disk.reads() - reads, most_reads_of(disk.blocks()))
        self.assertEqual(disk.writes(), writes)
        self.assertEqual(words_on(disk), before)

    def assert_newest_with_each_part(self, disk, number, shape):
        """The same with no torn block and with each part of the next block in its place."""
        many = disk.blocks()
        self.assert_newest(disk, (number, None))
        place = (number + 1) % many
        old = disk.read(place)
        new = block_of(number + 1, shape)
        for part in range(1, 8):
            disk.write(place, new[:part] + old[part:])
            self.assert_newest(disk, (number, place))
        disk.write(place, old)

    def test_disks_of_noughts(self):
        for many in range(4, 65):
            self.assert_newest(Disk(many), (many - 1, None))

    def test_disks_of_noughts_with_a_torn_first_block(self):
        for many in range(4, 65):
            for shape in range(4):
                self.assert_newest_with_each_part(Disk(many), many - 1, shape)

    def test_every_newest_number_of_the_first_rounds_on_small_disks(self):
        for many in range(4, 18):
            disk = Disk(many)
            for number in range(many, 5 * many):
                disk.write(number % many, block_of(number, number % 4))
                for shape in range(4):
                    self.assert_newest_with_each_part(disk, number, shape)

    def test_every_newest_number_of_the_first_rounds_on_disks_of_every_count(self):
        for many in range(18, 65):
            disk = Disk(many)
            for number in range(many, 3 * many + 1):
                disk.write(number % many, block_of(number, number % 4))
                self.assert_newest_with_each_part(disk, number, (number + many) % 4)

    def test_large_numbers(self):
        for many in (4, 5, 7, 8, 9, 31, 32, 33, 63, 64):
            for start in (10 ** 12 // many * many, 10 ** 12, 10 ** 12 + 1, 10 ** 15 - 3 * many):
                disk = Disk(many)
                for number in range(start, start + many):
                    disk.write(number % many, block_of(number, 0))
                for number in range(start + many, start + 2 * many):
                    disk.write(number % many, block_of(number, number % 4))
                    self.assert_newest_with_each_part(disk, number, (number + many) % 4)

    def test_a_torn_block_of_two_stops_one_behind_the_other(self):
        for many in (4, 5, 8, 64):
            disk = Disk(many)
            for number in range(many, 3 * many):
                old = disk.read(number % many)
                for first in range(1, 8):
                    for second in range(8):
                        disk.go_on()
                        disk.write(number % many, old)
                        for part, shape in ((first, 0), (second, 2)):
                            disk.stop_after(0, part)
                            with self.assertRaises(Stopped):
                                disk.write(number % many, block_of(number, shape))
                        self.assertEqual(newest(disk), (number - 1, number % many))
                disk.go_on()
                disk.write(number % many, block_of(number, 0))

    def test_a_stopped_disk_is_searched_too(self):
        disk = Disk(4)
        disk.write(0, block_of(4, 0))
        disk.stop_after(0, 3)
        with self.assertRaises(Stopped):
            disk.write(1, block_of(5, 0))
        self.assertEqual(newest(disk), (4, 1))
        self.assertEqual(newest(disk.twin()), (4, 1))
