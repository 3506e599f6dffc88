"""Promises [4] and [5]: which rows a list of whole blocks holds, and which are cut."""

import itertools
import unittest

from ringlog import standing
from ringlog.standing import cut_in, rows_in
from tests.model import row_of


def blocks_of(row, begin, many=None, floor=7):
    """The first blocks of a row, as many as told or all of them."""
    data = [len(row)] + row + [0] * (2 - len(row) % 3)
    count = len(data) // 3
    blocks = [
        [begin + at, floor, begin, count - 1 - at] + data[3 * at:3 * at + 3] + [begin + at]
        for at in range(count)
    ]
    return blocks if many is None else blocks[:many]


def mark(number):
    return [number, number - 1, 0, 0, 0, 0, 0, number]


def farewell(number):
    return [number, number - 1, 0, 1, 0, 0, 0, number]


class StandingCase(unittest.TestCase):

    def assert_told(self, blocks, rows, cut):
        """Both functions tell this, again too, and leave what they were handed."""
        before = [list(words) for words in blocks]
        for _ in range(2):
            self.assertEqual(rows_in(blocks), rows)
            self.assertEqual(cut_in(blocks), cut)
            self.assertEqual(blocks, before)


class StandingTest(StandingCase):

    def test_each_function_is_defined_in_its_file(self):
        for name in ("rows_in", "cut_in"):
            self.assertEqual(getattr(standing, name).__module__, "ringlog.standing")

    def test_arguments_have_the_names_of_the_interface(self):
        blocks = [[4, 3, 4, 0, 1, 5, 0, 4], [5, 3, 5, 1, 3, 6, 7, 5]]
        self.assertEqual(rows_in(blocks=blocks), [(4, [5])])
        self.assertEqual(cut_in(blocks=blocks), [5])

    def test_an_empty_list(self):
        self.assert_told([], [], [])

    def test_blocks_written_out(self):
        self.assert_told([[4, 3, 4, 0, 0, 0, 0, 4]], [(4, [])], [])
        self.assert_told(
            [[9, 8, 9, 1, 4, 21, 22, 9], [10, 8, 9, 0, 23, 24, 0, 10], [11, 10, 0, 0, 0, 0, 0, 11]],
            [(9, [21, 22, 23, 24])], [],
        )
        self.assert_told(
            [[9, 8, 9, 2, 6, 1, 2, 9], [10, 8, 9, 1, 3, 4, 5, 10], [11, 8, 11, 0, 1, 0, 0, 11]],
            [(11, [0])], [9],
        )

    def test_rows_of_every_count_whole_and_cut(self):
        for many in range(12):
            for begin in (4, 64, 10 ** 12):
                row = row_of(many)
                count = len(blocks_of(row, begin))
                self.assert_told(blocks_of(row, begin), [(begin, row)], [])
                for there in range(1, count):
                    self.assert_told(blocks_of(row, begin, there), [], [begin])

    def test_noughts_and_the_bounds_of_words(self):
        for row in ([0], [0, 0], [0] * 3, [0] * 11, [999999999] * 11, [5, 0, 0], [1, 2, 3, 0]):
            self.assert_told(blocks_of(row, 8), [(8, row)], [])

    def test_marks_and_a_farewell_are_no_rows(self):
        self.assert_told([mark(8)], [], [])
        self.assert_told([farewell(8)], [], [])
        self.assert_told([mark(8), mark(9), mark(10), farewell(11)], [], [])
        self.assert_told([mark(8), farewell(9), mark(10), farewell(11), mark(12)], [], [])

    def test_rows_ahead_of_a_mark_or_a_farewell_are_told(self):
        for end in (mark, farewell):
            self.assert_told(blocks_of([1, 2, 3], 8) + [end(10)], [(8, [1, 2, 3])], [])
            self.assert_told(blocks_of([1, 2, 3], 8, 1) + [end(9)], [], [8])
            self.assert_told([end(8)] + blocks_of([], 9), [(9, [])], [])

    def test_every_order_of_four_things(self):
        """A whole row, rows cut behind one and behind three blocks, a long row, a mark and a farewell."""
        shapes = [(row_of(2), None), (row_of(4), 1), (row_of(9), 3), (row_of(11, 51), None), (mark, 1), (farewell, 1)]
        for start, chosen in itertools.product((5, 10 ** 12), itertools.product(shapes, repeat=4)):
            blocks, rows, cut = [], [], []
            for what, there in chosen:
                number = start + len(blocks)
                if what in (mark, farewell):
                    blocks.append(what(number))
                    continue
                blocks += blocks_of(what, number, there)
                if there is None:
                    rows.append((number, what))
                else:
                    cut.append(number)
            self.assertEqual(rows_in(blocks), rows)
            self.assertEqual(cut_in(blocks), cut)

    def test_the_same_row_twice_is_two_rows(self):
        blocks = blocks_of([5], 8) + blocks_of([5], 9) + blocks_of([5, 6, 7], 10, 1) + blocks_of([5, 6, 7], 11, 1)
        self.assert_told(blocks, [(8, [5]), (9, [5])], [10, 11])

    def test_floors_do_not_matter(self):
        for floor in (0, 3, 7, 100):
            self.assert_told(blocks_of([1, 2, 3], 8, floor=floor), [(8, [1, 2, 3])], [])

    def test_kinds_of_what_is_told(self):
        rows = rows_in(blocks_of([1, 2, 3], 8) + blocks_of([], 10))
        self.assertIs(type(rows), list)
        for pair in rows:
            self.assertIs(type(pair), tuple)
            self.assertIs(type(pair[1]), list)
        self.assertIs(type(cut_in([])), list)

    def test_what_was_told_changed_inside_changes_nothing(self):
        blocks = blocks_of([1, 2, 3], 8) + blocks_of([4], 10) + blocks_of(row_of(5), 11, 1)
        rows, cut = rows_in(blocks), cut_in(blocks)
        rows[0][1][0] = 77
        rows[1][1].append(78)
        rows.clear()
        cut[0] = 79
        cut.append(80)
        self.assert_told(blocks, [(8, [1, 2, 3]), (10, [4])], [11])

    def test_what_was_handed_in_changed_behind_changes_nothing(self):
        blocks = blocks_of([1, 2, 3], 8) + blocks_of([4], 10) + blocks_of(row_of(5), 11, 1)
        rows, cut = rows_in(blocks), cut_in(blocks)
        for words in blocks:
            words[:] = [77] * 8
        blocks.clear()
        self.assertEqual(rows, [(8, [1, 2, 3]), (10, [4])])
        self.assertEqual(cut, [11])
