"""Promise [3], and [4] where it speaks of rows and their data, with the parts of [1] that speak of them."""

import itertools
import unittest

from ringlog import blocks
from ringlog.blocks import kind, length_of, made, pieces, words_of
from ringlog.disk import Disk
from ringlog.errors import Stopped

MOST_IN_ROW = 999999999

# The data of a row 11, 12, 13 .. of each count of words, written out.
DATA = [
    [[0, 0, 0]],
    [[1, 11, 0]],
    [[2, 11, 12]],
    [[3, 11, 12], [13, 0, 0]],
    [[4, 11, 12], [13, 14, 0]],
    [[5, 11, 12], [13, 14, 15]],
    [[6, 11, 12], [13, 14, 15], [16, 0, 0]],
    [[7, 11, 12], [13, 14, 15], [16, 17, 0]],
    [[8, 11, 12], [13, 14, 15], [16, 17, 18]],
    [[9, 11, 12], [13, 14, 15], [16, 17, 18], [19, 0, 0]],
    [[10, 11, 12], [13, 14, 15], [16, 17, 18], [19, 20, 0]],
    [[11, 11, 12], [13, 14, 15], [16, 17, 18], [19, 20, 21]],
]


def row_of(many):
    return list(range(11, 11 + many))


def blocks_of(row, begin=8, floor=7):
    """The blocks that a log would write for a row."""
    data = pieces(row)
    return [
        made(begin + at, floor, begin, len(data) - 1 - at, piece)
        for at, piece in enumerate(data)
    ]


class InterfaceTest(unittest.TestCase):

    def test_each_function_is_defined_in_its_file(self):
        for name in ("made", "kind", "pieces", "length_of", "words_of"):
            self.assertEqual(getattr(blocks, name).__module__, "ringlog.blocks")

    def test_arguments_have_the_names_of_the_interface(self):
        words = made(number=9, floor=8, begin=9, left=0, data=[1, 5, 0])
        self.assertEqual(words, [9, 8, 9, 0, 1, 5, 0, 9])
        self.assertEqual(kind(words=words, place=1, many=8), "whole")
        self.assertEqual(pieces(row=[5]), [[1, 5, 0]])
        self.assertEqual(length_of(row=[5]), 1)
        self.assertEqual(words_of(some=[words]), [5])


class MadeTest(unittest.TestCase):

    def test_the_words_stand_in_order(self):
        self.assertEqual(made(1, 2, 3, 4, [5, 6, 7]), [1, 2, 3, 4, 5, 6, 7, 1])
        self.assertEqual(made(64, 63, 0, 0, [0, 0, 0]), [64, 63, 0, 0, 0, 0, 0, 64])
        self.assertEqual(made(64, 63, 0, 1, [0, 0, 0]), [64, 63, 0, 1, 0, 0, 0, 64])
        self.assertEqual(
            made(10 ** 15, 10 ** 15 - 1, 10 ** 15 - 3, 0, [MOST_IN_ROW, 0, MOST_IN_ROW]),
            [10 ** 15, 10 ** 15 - 1, 10 ** 15 - 3, 0, MOST_IN_ROW, 0, MOST_IN_ROW, 10 ** 15],
        )

    def test_the_block_is_a_plain_list_of_its_own(self):
        data = [5, 6, 7]
        first = made(1, 2, 3, 4, data)
        self.assertIs(type(first), list)
        first[4] = 77
        first.clear()
        self.assertEqual(data, [5, 6, 7])
        second = made(1, 2, 3, 4, data)
        data[0] = 77
        data.append(8)
        self.assertEqual(second, [1, 2, 3, 4, 5, 6, 7, 1])

    def test_a_disk_takes_it(self):
        disk = Disk(8)
        disk.write(1, made(9, 8, 9, 0, [1, 5, 0]))
        self.assertEqual(disk.read(1), [9, 8, 9, 0, 1, 5, 0, 9])


class KindTest(unittest.TestCase):

    def test_noughts_are_empty_in_every_place(self):
        for many in (4, 8, 64):
            for place in range(many):
                self.assertEqual(kind([0] * 8, place, many), "empty")

    def test_only_the_first_and_the_last_word_make_it_empty(self):
        self.assertEqual(kind([0, 1, 2, 3, 4, 5, 6, 0], 0, 4), "empty")
        self.assertEqual(kind([0, 4, 4, 4, 4, 4, 4, 0], 0, 4), "empty")

    def test_a_block_is_whole_in_its_own_place_alone(self):
        for many in (4, 5, 64):
            for number in list(range(many, 3 * many + 1)) + [10 ** 15 - 1, 10 ** 15]:
                words = made(number, number - 1, number, 0, [1, 5, 0])
                for place in range(many):
                    expected = "whole" if place == number % many else "torn"
                    self.assertEqual(kind(words, place, many), expected)

    def test_only_the_first_and_the_last_word_make_it_whole(self):
        self.assertEqual(kind([5, 0, 0, 0, 0, 0, 0, 5], 1, 4), "whole")
        self.assertEqual(kind([5, 1, 2, 3, 4, 6, 7, 5], 1, 4), "whole")

    def test_a_number_below_the_count_is_torn_even_in_its_place(self):
        for many in (4, 8, 64):
            for number in range(1, many):
                for place in range(many):
                    words = made(number, 0, 0, 0, [0, 0, 0])
                    self.assertEqual(kind(words, place, many), "torn")

    def test_the_first_number_is_the_count(self):
        for many in (4, 8, 64):
            self.assertEqual(kind(made(many, many - 1, 0, 0, [0, 0, 0]), 0, many), "whole")
            self.assertEqual(kind(made(many - 1, 0, 0, 0, [0, 0, 0]), many - 1, many), "torn")

    def test_first_and_last_words_that_differ_are_torn(self):
        for first, last in ((9, 17), (17, 9), (0, 9), (9, 0), (9, 10), (1, 9), (9, 1), (1, 0), (0, 1)):
            for place in range(8):
                self.assertEqual(kind([first, 8, 9, 0, 1, 5, 0, last], place, 8), "torn")

    def test_every_mixture_of_two_blocks(self):
        many = 8
        mine = made(17, 16, 17, 0, [1, 5, 0])
        others = (
            [0] * 8, made(9, 8, 9, 0, [2, 5, 6]), made(16, 15, 0, 0, [0, 0, 0]),
            made(25, 24, 0, 1, [0, 0, 0]), made(1, 0, 1, 0, [1, 3, 0]),
        )
        for old, chosen in itertools.product(others, itertools.product((True, False), repeat=8)):
            words = [new if choose else word for new, word, choose in zip(mine, old, chosen)]
            if chosen[0] != chosen[7]:
                expected = "torn"
            elif chosen[0]:
                expected = "whole"
            else:
                expected = {0: "empty", 9: "whole", 16: "torn", 25: "whole", 1: "torn"}[old[0]]
            self.assertEqual(kind(words, 1, many), expected, (old, chosen))

    def test_what_a_stop_leaves_in_a_place(self):
        for part in range(8):
            disk = Disk(4)
            disk.stop_after(0, part)
            with self.assertRaises(Stopped):
                disk.write(1, made(5, 4, 5, 0, [1, 5, 0]))
            self.assertEqual(kind(disk.read(1), 1, 4), "torn" if part else "empty")
            disk.go_on()
            disk.write(1, made(5, 4, 5, 0, [1, 5, 0]))
            self.assertEqual(kind(disk.read(1), 1, 4), "whole")
            disk.stop_after(0, part)
            with self.assertRaises(Stopped):
                disk.write(1, made(9, 8, 9, 0, [1, 6, 0]))
            self.assertEqual(kind(disk.read(1), 1, 4), "torn" if part else "whole")

    def test_the_words_handed_in_stay(self):
        for words in ([0] * 8, [5, 0, 0, 0, 0, 0, 0, 5], [5, 0, 0, 0, 0, 0, 0, 1]):
            before = list(words)
            kind(words, 1, 4)
            self.assertEqual(words, before)


class RowTest(unittest.TestCase):

    def test_the_pieces_of_rows_of_every_count(self):
        for many in range(12):
            self.assertEqual(pieces(row_of(many)), DATA[many])

    def test_the_length_of_rows_of_every_count(self):
        lengths = [length_of(row_of(many)) for many in range(12)]
        self.assertEqual(lengths, [1, 1, 1, 2, 2, 2, 3, 3, 3, 4, 4, 4])

    def test_the_words_again_of_rows_of_every_count(self):
        for many in range(12):
            self.assertEqual(words_of(blocks_of(row_of(many))), row_of(many))

    def test_words_of_the_bounds_and_noughts_at_the_end_of_a_row_stay(self):
        for many in range(12):
            for word in (0, 1, MOST_IN_ROW):
                row = [word] * many
                self.assertEqual(words_of(blocks_of(row)), row)
        for row in ([0], [5, 0], [5, 0, 0], [0, 0, 5], [1, 2, 3, 0], [1, 2, 3, 4, 5, 0]):
            self.assertEqual(words_of(blocks_of(row)), row)

    def test_the_words_are_only_of_the_data(self):
        for begin, floor in ((4, 3), (64, 63), (10 ** 15 - 9, 7)):
            self.assertEqual(words_of(blocks_of(row_of(7), begin, floor)), row_of(7))
        self.assertEqual(words_of([[4, 3, 4, 1, 3, 7, 8, 4], [5, 3, 4, 0, 9, 0, 0, 5]]), [7, 8, 9])
        self.assertEqual(words_of([[4, 3, 4, 0, 0, 0, 0, 4]]), [])

    def test_the_row_handed_in_stays_and_changed_behind_changes_nothing(self):
        for many in range(12):
            row = row_of(many)
            told = pieces(row)
            length_of(row)
            self.assertEqual(row, row_of(many))
            row.append(77)
            row[0] = 77
            self.assertEqual(told, DATA[many])

    def test_pieces_changed_inside_change_nothing(self):
        for many in range(12):
            row = row_of(many)
            told = pieces(row)
            for piece in told:
                piece[0] = 77
                piece.append(77)
            told.clear()
            self.assertEqual(row, row_of(many))
            self.assertEqual(pieces(row), DATA[many])

    def test_pieces_of_noughts_are_lists_of_their_own(self):
        told = pieces([0] * 11)
        told[1][0] = 77
        self.assertEqual(told, [[11, 0, 0], [77, 0, 0], [0, 0, 0], [0, 0, 0]])

    def test_the_blocks_handed_in_stay_and_the_row_is_a_list_of_its_own(self):
        for many in range(12):
            some = blocks_of(row_of(many))
            before = [list(words) for words in some]
            row = words_of(some)
            self.assertEqual(some, before)
            row.append(77)
            row[0] = 77
            self.assertEqual(some, before)
            row = words_of(some)
            some[0][4:7] = [77, 77, 77]
            some.clear()
            self.assertEqual(row, row_of(many))

    def test_what_is_told_are_plain_lists(self):
        for many in range(12):
            told = pieces(row_of(many))
            self.assertIs(type(told), list)
            for piece in told:
                self.assertIs(type(piece), list)
            self.assertIs(type(words_of(blocks_of(row_of(many)))), list)
