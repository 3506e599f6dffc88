"""Promise [11], and [3], [4], [6], [7] and [10] of a log that is carried to another disk."""

import itertools
import unittest

from ringlog import carrying
from ringlog.carrying import carry, home
from ringlog.disk import Disk
from ringlog.errors import Full, Gone, LogError, Stopped
from ringlog.log import Log
from tests.model import NO_ROWS, Model, answer_of, carry_models, check_coming_up, row_of, told_by, words_on


class Place:
    """A disk and its model, on which all deeds are done alike."""

    def __init__(self, many):
        self.disk = Disk(many)
        self.model = Model(many)

    def twin(self):
        other = Place(self.model.many)
        other.disk, other.model = self.disk.twin(), self.model.copy()
        return other

    def do(self, case, row):
        """Put a row, or take where it is None, on a log that comes up."""
        log = Log(self.disk)
        if row is None:
            case.assertEqual(answer_of(log.take), self.model.take())
        else:
            case.assertEqual(answer_of(log.put, row), self.model.put(row))
        case.assertEqual(told_by(log), self.model.told())

    def stop_put(self, case, row, count, part):
        """A put meets a stop; then the disk goes on."""
        self.disk.stop_after(count, part)
        case.assertEqual(answer_of(Log(self.disk).put, row), "stopped")
        case.assertEqual(self.model.put(row, (count, part)), "stopped")
        self.disk.go_on()

    def check(self, case, why=None):
        case.assertEqual(words_on(self.disk), self.model.places, why)
        check_coming_up(case, self.disk, self.model, why)


class CarryCase(unittest.TestCase):

    def place_of(self, many, counts, turned=0):
        """A place where some rows were put and taken, and rows of these counts of words stand."""
        place = Place(many)
        for _ in range(turned):
            place.do(self, [7])
            place.do(self, None)
        for at, count in enumerate(counts):
            place.do(self, row_of(count, 100 * at + 11))
        return place

    def carry(self, old, new, old_stop=None, new_stop=None, why=None):
        """carry is answered as the model says, and writes just the words that it says, behind each stop too."""
        for place, stop in ((old, old_stop), (new, new_stop)):
            if stop is not None:
                place.disk.stop_after(*stop)
        expected = carry_models(old.model, new.model, old_stop, new_stop)
        self.assertEqual(answer_of(carry, old.disk, new.disk), expected, why)
        old.check(self, why)
        new.check(self, why)
        return expected

    def check_home(self, old, new, expected, rows, why=None):
        """home tells this disk, changes nothing, and the log there has these rows."""
        writes = (old.disk.writes(), new.disk.writes())
        self.assertIs(home(old.disk, new.disk), expected.disk, why)
        self.assertEqual((old.disk.writes(), new.disk.writes()), writes)
        self.assertEqual(Log(expected.disk).rows(), rows, why)
        old.check(self, why)
        new.check(self, why)

    def go_on(self, *places):
        for place in places:
            place.disk.go_on()

    def new_places(self, many):
        """New disks in all the states that a log may come to, each with its name."""
        yield "noughts", Place(many)
        yield "turned", self.place_of(many, [], many + 1)
        yield "one row", self.place_of(many, [4])
        yield "no words", self.place_of(many, [0], 1)
        yield "full", self.place_of(many, [1] * (many - 1), 2)
        yield "cut, no row", self.cut_place(many, [], 2, 0)
        yield "cut behind a row", self.cut_place(many, [1], 1, 5)
        for part in (1, 4, 7):
            yield "torn", self.cut_place(many, [], 0, part)
            yield "torn behind rows", self.cut_place(many, [2, 2], 0, part)
        yield "gone from noughts", self.gone_place(Place(many))
        yield "gone with rows", self.gone_place(self.place_of(many, [1] * (many - 1), 3))
        yield "gone and torn", self.torn_gone_place(many)

    def cut_place(self, many, counts, written, part):
        place = self.place_of(many, counts, 1)
        place.stop_put(self, row_of(min(8, 3 * place.model.room() - 1)), written, part)
        return place

    def gone_place(self, place):
        self.assertIsNone(self.carry(place, Place(64)))
        return place

    def torn_gone_place(self, many):
        place = self.gone_place(self.place_of(many, [5], 1))
        other = self.place_of(4, [1])
        self.assertEqual(self.carry(other, place, None, (0, 6)), "stopped")
        place.disk.go_on()
        return place


class InterfaceTest(CarryCase):

    def test_each_function_is_defined_in_its_file(self):
        for name in ("carry", "home"):
            self.assertEqual(getattr(carrying, name).__module__, "ringlog.carrying")

    def test_arguments_have_the_names_of_the_interface(self):
        old, new = Disk(4), Disk(5)
        self.assertIsNone(carry(old=old, new=new))
        self.assertIs(home(old=old, new=new), new)


class WrittenOutTest(CarryCase):

    def test_two_rows_onto_noughts(self):
        old, new = Disk(4), Disk(5)
        log = Log(old)
        log.put([5])
        log.put([6, 7, 8])
        self.assertIsNone(carry(old, new))
        self.assertEqual(words_on(new), [
            [5, 4, 5, 0, 1, 5, 0, 5], [6, 4, 6, 1, 3, 6, 7, 6], [7, 4, 6, 0, 8, 0, 0, 7], [0] * 8, [0] * 8,
        ])
        self.assertEqual(words_on(old), [
            [4, 3, 4, 0, 1, 5, 0, 4], [5, 3, 5, 1, 3, 6, 7, 5], [6, 3, 5, 0, 8, 0, 0, 6], [7, 6, 0, 1, 0, 0, 0, 7],
        ])
        self.assertEqual((old.writes(), new.writes()), (4, 3))
        self.assertEqual(told_by(Log(new)), ([[5], [6, 7, 8]], 1, (None, []), False))
        self.assertEqual(told_by(Log(old)), ([], None, (None, []), True))
        self.assertIs(home(old, new), new)

    def test_onto_a_disk_where_rows_stand_and_back_again(self):
        old, new = Disk(4), Disk(5)
        for word in (1, 2, 3):
            Log(new).put([word])
        Log(old).put([5])
        self.assertIsNone(carry(old, new))
        self.assertEqual(words_on(new), [
            [5, 4, 5, 0, 1, 1, 0, 5], [6, 4, 6, 0, 1, 2, 0, 6], [7, 4, 7, 0, 1, 3, 0, 7],
            [8, 7, 0, 0, 0, 0, 0, 8], [9, 8, 9, 0, 1, 5, 0, 9],
        ])
        self.assertEqual(Log(new).put([6]), 10)
        self.assertIsNone(carry(new, old))
        self.assertEqual(words_on(old), [
            [8, 6, 8, 0, 1, 6, 0, 8], [5, 4, 0, 1, 0, 0, 0, 5], [6, 5, 0, 0, 0, 0, 0, 6], [7, 6, 7, 0, 1, 5, 0, 7],
        ])
        self.assertEqual(new.read(1), [11, 10, 0, 1, 0, 0, 0, 11])
        self.assertEqual((told_by(Log(old))[:2], Log(new).gone()), (([[5], [6]], 1), True))
        self.assertIs(home(new, old), old)

    def test_no_rows_onto_noughts(self):
        old, new = Disk(4), Disk(4)
        self.assertIsNone(carry(old, new))
        self.assertEqual(words_on(new), [[0] * 8] * 4)
        self.assertEqual(words_on(old), [[4, 3, 0, 1, 0, 0, 0, 4]] + [[0] * 8] * 3)
        self.assertIs(home(old, new), new)
        self.assertEqual(told_by(Log(new)), ([], 3, (None, []), False))

    def test_no_rows_onto_rows_and_onto_a_log_that_has_gone(self):
        old, new = Disk(4), Disk(4)
        Log(new).put([5])
        self.assertIsNone(carry(old, new))
        self.assertEqual(words_on(new)[:2], [[4, 3, 4, 0, 1, 5, 0, 4], [5, 4, 0, 0, 0, 0, 0, 5]])
        self.assertEqual(Log(new).rows(), [])
        self.assertIsNone(carry(new, old))
        self.assertEqual(words_on(old)[:2], [[4, 3, 0, 1, 0, 0, 0, 4], [5, 4, 0, 0, 0, 0, 0, 5]])
        self.assertEqual(words_on(new)[2], [6, 5, 0, 1, 0, 0, 0, 6])
        self.assertEqual(told_by(Log(old)), ([], 3, (None, []), False))

    def test_a_taken_row_is_not_brought_and_a_cut_one_neither(self):
        old, new = Disk(8), Disk(4)
        log = Log(old)
        for row in ([1], [2], [3]):
            log.put(row)
        log.take()
        old.stop_after(1, 4)
        self.assertEqual(answer_of(log.put, row_of(8)), "stopped")
        old.go_on()
        self.assertIsNone(carry(old, new))
        self.assertEqual(Log(new).rows(), [[2], [3]])
        self.assertEqual(old.read(5), [13, 12, 0, 1, 0, 0, 0, 13])
        self.assertEqual(Log(old).scars(), (None, []))

    def test_a_full_disk_has_a_block_left_for_the_farewell(self):
        for many in range(4, 14):
            old, new = self.place_of(many, [1] * (many - 1), 3), Place(64)
            self.assertEqual(Log(old.disk).room(), 0)
            self.assertIsNone(self.carry(old, new))
            self.check_home(old, new, new, [[100 * at + 11] for at in range(many - 1)])


class SizesTest(CarryCase):

    def test_disks_of_every_count_in_every_state(self):
        """To and from 4 to 13 blocks, small to large and the other way, with no row, one and many."""
        for many in range(4, 14):
            places = list(self.new_places(many))
            for old_many in range(4, 14):
                for counts in self.counts_for(old_many):
                    old = self.place_of(old_many, counts, old_many % 5)
                    for name, new in places:
                        self.check_carry(old.twin(), new.twin(), (old_many, counts, many, name))

    def counts_for(self, many):
        yield []
        yield [0]
        yield [8]
        yield [1] * (many - 1)
        counts = []
        while sum(count // 3 + 1 for count in counts) < many - 1:
            left = many - 1 - sum(count // 3 + 1 for count in counts)
            counts.append(min((5 * len(counts) + 4) % 12, 3 * left - 1))
        yield counts
        yield counts[1:]

    def check_carry(self, old, new, why):
        rows = old.model.rows()
        before = (words_on(old.disk), words_on(new.disk), old.disk.writes(), new.disk.writes())
        answer = self.carry(old, new, why=why)
        if sum(len(row) // 3 + 1 for row in rows) > new.model.many - 1:
            self.assertEqual(answer, "full", why)
            after = (words_on(old.disk), words_on(new.disk), old.disk.writes(), new.disk.writes())
            self.assertEqual(after, before, why)
            self.check_home(old, new, old, rows, why)
            return
        self.assertIsNone(answer, why)
        self.assertEqual(old.disk.writes(), before[2] + 1)
        self.check_home(old, new, new, rows, why)
        self.check_gone(old, new)
        new.do(self, None)
        new.do(self, row_of(3))

    def check_gone(self, old, new):
        """The old log does nothing more."""
        before = (words_on(old.disk), words_on(new.disk))
        log = Log(old.disk)
        answers = [answer_of(log.put, [5]), answer_of(log.take), answer_of(carry, old.disk, new.disk)]
        self.assertEqual(answers, ["gone"] * 3)
        self.assertEqual((log.rows(), log.gone()), ([], True))
        self.assertEqual((words_on(old.disk), words_on(new.disk)), before)

    def test_rows_that_just_go_onto_the_new_disk_and_rows_that_just_do_not(self):
        for many in range(4, 64):
            for start in ([], [2], [3], [8, 11]):
                blocks = sum(count // 3 + 1 for count in start)
                for more, expected in ((many - 1 - blocks, None), (many - blocks, "full")):
                    if more < 0:
                        continue
                    old = self.place_of(64, start + [1] * more, 3)
                    new = self.place_of(many, [1], 1)
                    places = (words_on(old.disk), words_on(new.disk))
                    self.assertEqual(answer_of(carry, old.disk, new.disk), expected)
                    if expected is not None:
                        self.assertEqual((words_on(old.disk), words_on(new.disk)), places)
                    else:
                        self.assertEqual(Log(new.disk).rows(), old.model.rows())
                        self.assertEqual(Log(new.disk).room(), 0)

    def test_words_of_the_bounds_and_large_numbers(self):
        for many in (5, 9):
            old, new = Place(9), Place(many)
            for place, start in ((old, 10 ** 12 + 3), (new, 10 ** 12 + 40)):
                for number in range(start, start + place.model.many):
                    words = [number, number - 1, 0, 0, 0, 0, 0, number]
                    place.disk.write(number % place.model.many, words)
                    place.model._write([words], None)
            for row in ([0] * 5, [999999999], []):
                old.do(self, row)
            self.assertIsNone(self.carry(old, new))
            self.check_home(old, new, new, [[0] * 5, [999999999], []])
            first = 10 ** 12 + 40 + many
            self.assertEqual(new.disk.read(first % many)[:4], [first, first - 1, first, 1])


class StopTest(CarryCase):

    def stopped_pairs(self):
        """Old and new places, of several sizes and states."""
        for old_many, counts, turned in ((4, [], 0), (4, [3, 1], 2), (5, [1, 4, 0], 4), (8, [2, 8], 5)):
            old = self.place_of(old_many, counts, turned)
            for many in (4, 6, 9):
                for name, new in self.new_places(many):
                    if sum(count // 3 + 1 for count in counts) < many:
                        yield old, new, (old_many, counts, many, name)

    def test_the_new_disk_stops_at_each_write_of_each_part(self):
        for old, new, why in self.stopped_pairs():
            for count in range(len(new.model.blocks_of_carry(old.model.rows()))):
                for part in range(8):
                    mine, other = old.twin(), new.twin()
                    self.assertEqual(self.carry(mine, other, None, (count, part), why), "stopped")
                    self.check_stopped(mine, other, old.model.rows(), why + (count, part))

    def test_the_old_disk_stops_at_its_farewell_of_each_part(self):
        for old, new, why in self.stopped_pairs():
            for part in range(8):
                mine, other = old.twin(), new.twin()
                self.assertEqual(self.carry(mine, other, (0, part), None, why), "stopped")
                self.assertEqual(Log(other.disk).rows(), old.model.rows())
                self.check_stopped(mine, other, old.model.rows(), why + (part,))

    def check_stopped(self, old, new, rows, why):
        """No row is lost and none is twice; carry done again brings them over; deeds go on there."""
        self.check_home(old, new, old, rows, why)
        self.go_on(old, new)
        self.check_home(old, new, old, rows, why)
        self.assertIsNone(self.carry(old, new, why=why))
        self.check_home(old, new, new, rows, why)
        new.do(self, [77])
        for row in rows:
            self.assertEqual(Log(new.disk).rows()[0], row)
            new.do(self, None)
        new.do(self, None)
        new.do(self, row_of(8))
        new.check(self, why)

    def test_a_stop_written_out(self):
        """Onto a disk where a row stands: the mark comes in, the first row does, the second is cut."""
        old, new = Disk(5), Disk(5)
        Log(new).put([9])
        log = Log(old)
        log.put([5])
        log.put([6, 7, 8])
        new.stop_after(3, 6)
        with self.assertRaises(Stopped):
            carry(old, new)
        self.assertEqual(words_on(new), [
            [5, 4, 5, 0, 1, 9, 0, 5], [6, 5, 0, 0, 0, 0, 0, 6], [7, 6, 7, 0, 1, 5, 0, 7],
            [8, 6, 8, 1, 3, 6, 7, 8], [9, 6, 8, 0, 8, 0, 0, 0],
        ])
        self.assertEqual(old.writes(), 3)
        self.assertIs(home(old, new), old)
        self.assertEqual(told_by(Log(new)), ([[5]], 2, (4, [8]), False))
        new.go_on()
        self.assertIsNone(carry(old, new))
        self.assertEqual(words_on(new), [
            [10, 9, 10, 0, 1, 5, 0, 10], [11, 9, 11, 1, 3, 6, 7, 11], [12, 9, 11, 0, 8, 0, 0, 12],
            [8, 6, 8, 1, 3, 6, 7, 8], [9, 8, 0, 0, 0, 0, 0, 9],
        ])
        self.assertEqual(old.read(3), [8, 7, 0, 1, 0, 0, 0, 8])
        self.assertIs(home(old, new), new)
        self.assertEqual(told_by(Log(new)), ([[5], [6, 7, 8]], 1, (None, []), False))

    def test_a_mark_that_does_not_come_in_leaves_the_rows_of_the_new_disk(self):
        for part in range(8):
            old, new = self.place_of(4, [1]), self.place_of(5, [2, 2])
            rows = new.model.rows()
            self.assertEqual(self.carry(old, new, None, (0, part)), "stopped")
            self.assertEqual(Log(new.disk).rows(), rows)
            gone = self.gone_place(self.place_of(5, [2, 2]))
            self.assertEqual(self.carry(old, gone, None, (0, part)), "stopped")
            self.assertTrue(Log(gone.disk).gone())
            self.check_home(old, gone, old, old.model.rows())

    def test_both_disks_stop(self):
        for parts in itertools.product((0, 3, 7), repeat=2):
            old, new = self.place_of(5, [4, 1], 2), self.place_of(6, [1, 1], 3)
            rows = old.model.rows()
            self.assertEqual(self.carry(old, new, (0, parts[0]), (2, parts[1])), "stopped")
            self.check_home(old, new, old, rows)
            self.go_on(new)
            self.assertEqual(self.carry(old, new, (0, parts[0])), "stopped")
            self.check_home(old, new, old, rows)
            self.assertEqual(answer_of(carry, old.disk, new.disk), "stopped")
            self.assertEqual(new.model.bring(rows), None)
            self.go_on(old)
            self.assertIsNone(self.carry(old, new))
            self.check_home(old, new, new, rows)

    def test_a_stop_that_is_not_met(self):
        old, new = self.place_of(5, [4, 1], 2), self.place_of(6, [1, 1], 3)
        rows = old.model.rows()
        self.assertIsNone(self.carry(old, new, (1, 4), (4, 4)))
        self.check_home(old, new, new, rows)
        with self.assertRaises(Stopped):
            Log(new.disk).put([5])
        new.model.put([5], (0, 4))
        self.check_home(old, new, new, rows)

    def test_several_stops_one_behind_the_other(self):
        """At every two writes of the new disk, then at the farewell; each time both disks go on."""
        for name, fresh in self.new_places(6):
            for first, second in itertools.product(range(5), repeat=2):
                old, new = self.place_of(5, [4, 1, 0], 2), fresh.twin()
                rows = old.model.rows()
                for count, part in ((first, first + 3), (second, 7 - second), (first, second)):
                    if count < len(new.model.blocks_of_carry(rows)):
                        self.assertEqual(self.carry(old, new, None, (count, part)), "stopped")
                        self.check_home(old, new, old, rows, name)
                        self.go_on(new)
                for part in (second, first + 2):
                    self.assertEqual(self.carry(old, new, (0, part)), "stopped")
                    self.check_home(old, new, old, rows, name)
                    self.go_on(old)
                self.assertIsNone(self.carry(old, new))
                self.check_home(old, new, new, rows, name)

    def test_logs_carried_about_with_deeds_and_stops_for_some_rounds(self):
        """Three disks; the log goes from one to the next, each carry is done until it is answered."""
        for sizes in ((4, 5, 6), (7, 4, 9), (5, 5, 5)):
            places = [Place(many) for many in sizes]
            rows, state, at = [], sum(sizes), 0
            for step in range(80):
                old, new = places[at], places[(at + 1) % 3]
                for _ in range(2):
                    state = (state * 31 + 17) % 1009
                    old.do(self, None if state % 3 == 0 else row_of(state % 7, step))
                rows = old.model.rows()
                state = (state * 31 + 17) % 1009
                stops = [(None, (state % 5, state % 8)), ((0, state % 8), None), (None, None)]
                for old_stop, new_stop in stops[state % 3:]:
                    answer = self.carry(old, new, old_stop, new_stop)
                    self.go_on(old, new)
                    if answer is None:
                        break
                    self.check_home(old, new, old, rows)
                if answer is None:
                    self.check_home(old, new, new, rows)
                    at = (at + 1) % 3
                else:
                    self.assertEqual(answer, "full")


class StatesTest(CarryCase):

    def test_all_a_disk_of_four_or_five_blocks_can_come_to(self):
        """Each state that puts, takes, carries there and away, and stops in each of them, lead to."""
        for many in (4, 5):
            seen = {}
            ahead = [Place(many)]
            while ahead:
                place = ahead.pop()
                if self.key_of(place.model) in seen:
                    continue
                seen[self.key_of(place.model)] = True
                place.check(self)
                ahead += self.behind_deeds(place) + self.behind_carries(place)
            self.assertGreater(len(seen), 200)

    def key_of(self, model):
        """What tells one state from another; the numbers' size does not, nor does what stands in the rows."""
        many = model.many
        standing = tuple((model.number - begin, len(row)) for begin, row in model.standing)
        cut = tuple(model.number - begin for begin in model.cut)
        number = min(model.number, 2 * many + model.number % many)
        return (number, model.number - model.floor, standing, cut, model.torn, model.gone)

    def behind_deeds(self, place):
        found = []
        for row in (row_of(2), row_of(3), row_of(8), None):
            blocks = 1 if row is None else len(row) // 3 + 1
            for stop in [None] + list(itertools.product(range(blocks), (0, 2, 7))):
                other = place.twin()
                if stop is not None:
                    other.disk.stop_after(*stop)
                log, model = Log(other.disk), other.model
                expected = model.take(stop) if row is None else model.put(row, stop)
                told = answer_of(log.take) if row is None else answer_of(log.put, row)
                self.assertEqual(told, expected)
                other.disk.go_on()
                self.assertEqual(words_on(other.disk), model.places)
                found.append(other)
        return found

    def behind_carries(self, place):
        found = []
        for stop in (None, (0, 0), (0, 2), (0, 7)):
            old, new = place.twin(), Place(8)
            self.carry(old, new, stop)
            old.disk.go_on()
            found.append(old)
        for counts in ([], [2], [3, 1], [8]):
            source = self.place_of(8, counts)
            writes = len(place.model.blocks_of_carry(source.model.rows()))
            for stop in [None] + list(itertools.product(range(writes), (0, 2, 7))):
                old, new = source.twin(), place.twin()
                self.carry(old, new, None, stop)
                new.disk.go_on()
                found.append(new)
        return found


class BackTest(CarryCase):

    def test_to_and_fro_between_disks_of_every_count(self):
        for many, other in itertools.product((4, 5, 7, 10), repeat=2):
            old, new = self.place_of(many, [1, 4]), Place(other)
            for step in range(2 * max(many, other)):
                rows = old.model.rows()
                self.assertIsNone(self.carry(old, new))
                self.check_home(old, new, new, rows)
                new.do(self, None)
                new.do(self, [step])
                old, new = new, old

    def test_to_and_fro_with_no_rows(self):
        old, new = Place(4), Place(5)
        for _ in range(11):
            self.assertIsNone(self.carry(old, new))
            self.check_home(old, new, new, [])
            old, new = new, old

    def test_a_disk_that_the_log_left_is_filled_anew_up_to_its_bound(self):
        for many in range(4, 14):
            old, new = self.place_of(many, [1] * (many - 1)), Place(64)
            self.assertIsNone(self.carry(old, new))
            self.assertIsNone(self.carry(new, old))
            self.check_home(new, old, old, [[100 * at + 11] for at in range(many - 1)])
            self.assertEqual(Log(old.disk).room(), 0)


class HomeTest(CarryCase):

    def test_two_fresh_disks(self):
        for sizes in ((4, 4), (4, 64), (64, 4)):
            old, new = Disk(sizes[0]), Disk(sizes[1])
            self.assertIs(home(old, new), old)
            self.assertIs(home(new, old), new)
            self.assertEqual((old.writes(), new.writes()), (0, 0))

    def test_ahead_of_in_the_midst_of_and_behind_a_carry(self):
        old, new = self.place_of(6, [1, 5]), self.place_of(7, [4])
        rows = old.model.rows()
        self.check_home(old, new, old, rows)
        for count in range(4):
            self.assertEqual(self.carry(old, new, None, (count, 5)), "stopped")
            self.check_home(old, new, old, rows)
            self.go_on(new)
        self.assertEqual(self.carry(old, new, (0, 7)), "stopped")
        self.check_home(old, new, old, rows)
        self.go_on(old)
        self.check_home(old, new, old, rows)
        self.assertIsNone(self.carry(old, new))
        self.check_home(old, new, new, rows)

    def test_only_the_old_disk_counts(self):
        """Where the new disk's log has gone elsewhere, and the old one's has not, the log is on the old one."""
        old, new = self.place_of(4, [1]), self.gone_place(self.place_of(5, [2]))
        self.check_home(old, new, old, [[11]])

    def test_of_stopped_disks(self):
        old, new = self.place_of(4, [1]), Place(5)
        for place in (old, new):
            place.disk.stop_after(0, 3)
        self.check_home(old, new, old, [[11]])
        self.go_on(old, new)
        self.carry(old, new)
        for place in (old, new):
            place.disk.stop_after(0, 3)
        self.check_home(old, new, new, [[11]])


class RefusalTest(CarryCase):

    def assert_refused(self, refusal, deed, *given):
        with self.assertRaises(LogError) as caught:
            deed(*given)
        self.assertIs(type(caught.exception), refusal)

    def test_gone_ahead_of_full_of_bad_row_of_empty_and_of_stopped(self):
        for stopped in (False, True):
            old, new = self.place_of(5, [1] * 4), Place(8)
            self.assertIsNone(self.carry(old, new))
            if stopped:
                old.disk.stop_after(0, 4)
                new.disk.stop_after(0, 4)
            before = (words_on(old.disk), words_on(new.disk), old.disk.writes(), new.disk.writes())
            log = Log(old.disk)
            for row in [[5], [], row_of(11)] + NO_ROWS:
                self.assert_refused(Gone, log.put, row)
            self.assert_refused(Gone, log.take)
            for other in (new.disk, Disk(4), old.disk.twin()):
                self.assert_refused(Gone, carry, old.disk, other)
            after = (words_on(old.disk), words_on(new.disk), old.disk.writes(), new.disk.writes())
            self.assertEqual(after, before)

    def test_full_ahead_of_stopped(self):
        for stopped in ((), (0,), (1,), (0, 1)):
            old, new = self.place_of(6, [1] * 4), self.place_of(4, [1])
            for at in stopped:
                (old, new)[at].disk.stop_after(0, 5)
            before = (words_on(old.disk), words_on(new.disk))
            self.assert_refused(Full, carry, old.disk, new.disk)
            self.assertEqual((words_on(old.disk), words_on(new.disk)), before)

    def test_full_until_a_row_is_taken(self):
        old, new = self.place_of(6, [1] * 4), self.place_of(4, [1])
        self.assert_refused(Full, carry, old.disk, new.disk)
        old.do(self, None)
        rows = old.model.rows()
        self.assertIsNone(self.carry(old, new))
        self.check_home(old, new, new, rows)

    def test_stopped_disks(self):
        old, new = self.place_of(6, [1, 1]), self.place_of(4, [1])
        new.disk.stop_after(0, 0)
        before = (words_on(old.disk), words_on(new.disk))
        for _ in range(3):
            self.assert_refused(Stopped, carry, old.disk, new.disk)
        self.assertEqual((words_on(old.disk), words_on(new.disk)), before)

    def test_a_carry_is_refused_with_gone_behind_each_carry(self):
        """Also where the new disk's log has gone, too."""
        first, second, third = self.place_of(4, [1]), Place(5), Place(6)
        self.assertIsNone(self.carry(first, second))
        self.assertIsNone(self.carry(second, third))
        for old, new in itertools.permutations((first, second, third), 2):
            if old is not third:
                self.assertEqual(self.carry(old, new), "gone")
        self.check_home(second, third, third, [[11]])
        self.assertIsNone(self.carry(third, first))
        self.check_home(third, first, first, [[11]])


class LogTest(CarryCase):
    """The two deeds by which carry ends what stands on a log."""

    def test_a_log_that_has_left_tells_so_at_once(self):
        disk = Disk(5)
        log = Log(disk)
        log.put([5])
        log.leave()
        self.assertEqual(told_by(log), ([], None, (None, []), True))
        self.assertEqual(told_by(Log(disk)), told_by(log))
        writes = disk.writes()
        for deed, given in ((log.put, [[5]]), (log.take, []), (log.leave, [])):
            self.assert_gone(deed, given)
        self.assertEqual(disk.writes(), writes)
        log.take_all()
        self.assertEqual(told_by(log), ([], 4, (None, []), False))
        self.assertEqual(disk.read(2), [7, 6, 0, 0, 0, 0, 0, 7])
        self.assertEqual(log.put([6]), 8)
        self.assertEqual(told_by(Log(disk)), told_by(log))

    def assert_gone(self, deed, given):
        with self.assertRaises(Gone):
            deed(*given)

    def test_scars_behind_both(self):
        for deed in (Log.take_all, Log.leave):
            place = self.place_of(8, [1])
            place.stop_put(self, row_of(8), 1, 4)
            log = Log(place.disk)
            self.assertEqual(log.scars(), (2, [9]))
            deed(log)
            self.assertEqual(log.scars(), (None, []))
            self.assertEqual(told_by(Log(place.disk)), told_by(log))

    def test_nothing_is_written_where_nothing_stands(self):
        for many in (4, 9):
            disk = Disk(many)
            log = Log(disk)
            log.take_all()
            self.assertEqual((disk.writes(), words_on(disk)), (0, [[0] * 8] * many))
