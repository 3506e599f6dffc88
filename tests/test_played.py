"""played: orders in lines, in each state of a log: awake, stopped, asleep, risen, gone."""

import itertools
import unittest

from ringlog.carrying import carry
from ringlog.disk import Disk
from ringlog.log import Log
from ringlog.shell import played
from tests.model import Model, check_coming_up, row_of, words_on
from tests.test_orders import expected_of

BAD_LINES = [
    "", "put ", " put", "put  1", "put 01", "put 1,", "take 1", "TAKE", "stop", "stop 0 8", "rise ", "rows\n", "x",
]


def text_of(row):
    return ",".join(str(word) for word in row) if row else "-"


class Play:
    """What the document says of orders that are played, one behind the other."""

    def __init__(self, model, stop=None):
        self.model = model
        self.stop = stop
        self.asleep = False

    def answer(self, line):
        order = expected_of(line)
        if order is None:
            return "bad order"
        if order[0] == "stop":
            self.stop = order[1:]
            return "done"
        if order[0] == "rise":
            self.stop, self.asleep = None, False
            return "done"
        if self.asleep:
            return "asleep"
        if order[0] == "rows":
            return " ".join(text_of(row) for row in self.model.rows()) or "none"
        if order[0] == "room":
            return str(self.model.room())
        return self.deed(order)

    def deed(self, order):
        number = self.model.number
        told = self.model.put(order[1], self.stop) if order[0] == "put" else self.model.take(self.stop)
        if told == "stopped":
            self.stop, self.asleep = (0, 0), True
        elif self.stop is not None:
            self.stop = (self.stop[0] - (self.model.number - number), self.stop[1])
        if isinstance(told, list):
            return text_of(told)
        return str(told)


class PlayedCase(unittest.TestCase):

    def play(self, disk, lines, model=None, stop=None):
        """played answers as the model does, and leaves the words that it says; the lines stay as they are."""
        model = model or Model(disk.blocks())
        play = Play(model, stop)
        expected = [play.answer(line) for line in lines]
        kept = list(lines)
        answers = played(disk, lines)
        self.assertEqual(list(zip(kept, answers)), list(zip(kept, expected)))
        self.assertEqual(len(answers), len(kept))
        self.assertIs(type(answers), list)
        for answer in answers:
            self.assertIs(type(answer), str)
        self.assertEqual(lines, kept)
        self.assertEqual(words_on(disk), model.places)
        check_coming_up(self, disk, model)
        return answers


class WrittenOutTest(PlayedCase):

    def test_the_function_is_defined_in_its_file(self):
        self.assertEqual(played.__module__, "ringlog.shell")
        self.assertEqual(played(disk=Disk(4), lines=["room"]), ["3"])

    def test_no_lines(self):
        disk = Disk(4)
        self.assertEqual(played(disk, []), [])
        self.assertEqual((words_on(disk), disk.writes()), ([[0] * 8] * 4, 0))

    def test_each_order_awake(self):
        disk = Disk(5)
        lines = [
            "rows", "room", "take", "put 5", "put", "rows", "room", "put 1,2,3", "room", "put 1,2,3", "take", "rows",
            "take", "room", "take", "take", "rows", "room", "put 9,8,7,6,5,4,3,2,1", "put",
            "put 9,8,7,6,5,4,3,2,1,0,9", "take", "put 0", "rows",
        ]
        self.assertEqual(self.play(disk, lines), [
            "none", "4", "empty", "5", "6", "5 -", "2", "7", "0", "full", "5", "- 1,2,3",
            "-", "0", "1,2,3", "empty", "none", "4", "12", "full",
            "full", "9,8,7,6,5,4,3,2,1", "17", "0",
        ])
        self.assertEqual(words_on(disk)[2], [17, 16, 17, 0, 1, 0, 0, 17])

    def test_a_stop_of_count_nought(self):
        for part in range(8):
            disk = Disk(4)
            lines = [
                "put 5", f"stop 0 {part}", "rows", "room", "put 6", "put 6", "take", "rows", "room", "no order",
                "rise", "rows", "room", "put 6", "rows", "take",
            ]
            self.assertEqual(self.play(disk, lines), [
                "4", "done", "5", "2", "stopped", "asleep", "asleep", "asleep", "asleep", "bad order",
                "done", "5", "2", "5", "5 6", "5",
            ])

    def test_a_stop_of_count_nought_is_met_by_take_too(self):
        disk = Disk(4)
        lines = ["put 5", "stop 0 7", "take", "take", "rise", "take", "take"]
        self.assertEqual(self.play(disk, lines), ["4", "done", "stopped", "asleep", "done", "5", "empty"])
        self.assertEqual(disk.read(1), [5, 4, 0, 0, 0, 0, 0, 5])

    def test_a_stop_some_writes_on(self):
        disk = Disk(8)
        lines = ["put 1", "stop 3 4", "put 2", "take", "put 1,2,3", "rows", "rise", "rows", "room", "put 1,2,3", "rows"]
        self.assertEqual(self.play(disk, lines), [
            "8", "done", "9", "1", "stopped", "asleep", "done", "2", "4", "12", "2 1,2,3",
        ])
        self.assertEqual(disk.read(3), [11, 8, 11, 1, 3, 1, 2, 11])

    def test_full_empty_and_bad_order_do_not_meet_the_stop(self):
        disk = Disk(4)
        lines = ["stop 0 3", "take", "put 1,2,3,4,5,6,7,8,9", "put 00", "rows", "room", "put 1", "take"]
        self.assertEqual(self.play(disk, lines), [
            "done", "empty", "full", "bad order", "none", "3", "stopped", "asleep",
        ])

    def test_a_stop_told_anew_ahead_of_the_first(self):
        disk = Disk(5)
        lines = ["stop 0 3", "stop 2 1", "put 1", "put 2", "stop 1 7", "take", "put 3", "rows", "rise", "rows"]
        self.assertEqual(self.play(disk, lines), [
            "done", "done", "5", "6", "done", "1", "stopped", "asleep", "done", "2",
        ])

    def test_a_stop_told_anew_while_asleep_wakes_no_one(self):
        disk = Disk(5)
        lines = ["put 1", "stop 0 3", "put 2", "stop 5 3", "put 2", "take", "rows", "room", "rise", "rows", "take"]
        self.assertEqual(self.play(disk, lines), [
            "5", "done", "stopped", "done", "asleep", "asleep", "asleep", "asleep", "done", "1", "1",
        ])

    def test_rise_takes_back_each_stop(self):
        disk = Disk(5)
        lines = ["stop 0 3", "rise", "put 1", "stop 0 3", "put 2", "stop 0 3", "rise", "put 2", "rows", "rise", "rows"]
        self.assertEqual(self.play(disk, lines), [
            "done", "done", "5", "done", "stopped", "done", "done", "6", "1 2", "done", "1 2",
        ])

    def test_a_disk_handed_in_stopped(self):
        disk = Disk(4)
        Log(disk).put([5])
        model = Model(4)
        model.put([5])
        disk.stop_after(0, 5)
        lines = ["rows", "room", "put 6", "rows"]
        self.assertEqual(self.play(disk, lines, model, (0, 5)), ["5", "2", "stopped", "asleep"])
        self.assertEqual(self.play(disk, ["rows", "take", "rows"], model, (0, 0)), ["5", "stopped", "asleep"])
        self.assertEqual(self.play(disk, ["rise", "take", "rows"], model), ["done", "5", "none"])

    def test_the_stop_stays_on_the_disk_behind_it(self):
        disk = Disk(4)
        model = Model(4)
        self.assertEqual(self.play(disk, ["stop 1 3", "put 1"], model), ["done", "4"])
        self.assertEqual(self.play(disk, ["put 2", "rows"], model, (0, 3)), ["stopped", "asleep"])
        self.assertEqual(self.play(disk, ["rise"], model), ["done"])
        self.assertEqual(self.play(disk, ["take"], model), ["1"])

    def test_rows_of_no_words_are_told_apart_from_none(self):
        self.assertEqual(self.play(Disk(4), ["rows", "put", "rows", "put", "rows", "take", "take", "rows"]), [
            "none", "4", "-", "5", "- -", "-", "-", "none",
        ])

    def test_bounds_of_words(self):
        row = ",".join(["999999999"] * 11)
        self.assertEqual(self.play(Disk(5), [f"put {row}", "rows", f"put {row},0", "put 1000000000", "take"]), [
            "5", row, "bad order", "bad order", row,
        ])


class GoneTest(PlayedCase):

    def gone_disk(self, counts):
        disk = Disk(5)
        model = Model(5)
        for count in counts:
            Log(disk).put(row_of(count))
            model.put(row_of(count))
        carry(disk, Disk(64))
        model.leave()
        return disk, model

    def test_each_order_on_a_log_that_has_gone(self):
        for counts in ([], [1], [3, 0, 2]):
            disk, model = self.gone_disk(counts)
            before = words_on(disk)
            lines = ["put", "put 1,2", "take", "rows", "put 1,2,3,4,5,6,7,8,9,10,11", "put 01", "take", "rows"]
            self.assertEqual(self.play(disk, lines, model), [
                "gone", "gone", "gone", "none", "gone", "bad order", "gone", "none",
            ])
            self.assertEqual(words_on(disk), before)

    def test_its_room_is_answered_by_some_number(self):
        disk, _ = self.gone_disk([1])
        answers = played(disk, ["room", "take"])
        self.assertTrue(answers[0].isdigit())
        self.assertEqual(answers[1], "gone")

    def test_a_stop_is_never_met_and_rise_brings_nothing_back(self):
        for stop in ("stop 0 0", "stop 0 5", "stop 3 7"):
            disk, model = self.gone_disk([1, 2])
            lines = [stop, "put 1", "take", "rows", "rise", "put 1", "take", "rows", "rise", "rows"]
            self.assertEqual(self.play(disk, lines, model), [
                "done", "gone", "gone", "none", "done", "gone", "gone", "none", "done", "none",
            ])

    def test_behind_a_carry_back_the_log_is_there_again(self):
        disk, other = Disk(5), Disk(5)
        self.assertEqual(played(disk, ["put 1", "put 2"]), ["5", "6"])
        carry(disk, other)
        self.assertEqual(played(other, ["rows", "take", "put 3"]), ["1 2", "1", "8"])
        self.assertEqual(played(disk, ["rows", "take"]), ["none", "gone"])
        carry(other, disk)
        self.assertEqual(played(disk, ["rows", "room", "take", "put 4"]), ["2 3", "2", "2", "12"])
        self.assertEqual(played(other, ["rows", "take"]), ["none", "gone"])


class ManyOrdersTest(PlayedCase):

    def test_every_three_orders_behind_each_state(self):
        """Awake with and without a stop ahead, asleep, asleep with a stop told anew, and risen."""
        orders = ["put 6", "put 1,2,3,4", "take", "rows", "room", "stop 0 3", "stop 1 6", "rise", "nothing"]
        states = [
            [], ["put 5", "put"], ["put 1,2,3", "stop 1 4"], ["put 5", "stop 0 2", "put 6"],
            ["put 5", "stop 0 5", "take", "stop 1 1"], ["put 5", "stop 1 7", "put 1,2,3,4", "rise"],
        ]
        for state, chosen in itertools.product(states, itertools.product(orders, repeat=3)):
            self.play(Disk(4), state + list(chosen) + ["rows", "rise", "rows", "room"])

    def test_bad_orders_in_each_state(self):
        for state in ([], ["put 5"], ["stop 0 3"], ["stop 0 3", "put 5"], ["stop 0 3", "put 5", "rise"]):
            for line in BAD_LINES:
                answers = self.play(Disk(4), state + [line, "rows", line])
                self.assertEqual((answers[-3], answers[-1]), ("bad order", "bad order"))

    def test_each_write_of_each_part_met_in_long_plays(self):
        lines = ["put 1,2,3", "put", "take", "put 5,6,7,8,9,10", "take", "take", "put 4"]
        for many, count, part in itertools.product((5, 6, 9), range(10), range(8)):
            stop = f"stop {count} {part}"
            self.play(Disk(many), [stop] + lines + ["rows", "rise", "rows", "room"] + lines + ["rows"])

    def test_plays_of_hundreds_of_orders_in_several_parts(self):
        for many in (4, 5, 8, 13, 64):
            disk, model = Disk(many), Model(many)
            state = many
            for _ in range(4):
                lines = []
                for _ in range(150):
                    state = (state * 331 + 17) % 10007
                    lines.append(self.line_of(state))
                self.play(disk, lines + ["rise", "rows"], model)
            self.assertGreater(model.number, 6 * many)

    def line_of(self, state):
        chosen = state % 16
        if chosen < 5:
            row = row_of(state // 16 % 12, state)
            return f"put {text_of(row)}" if row else "put"
        if chosen == 5:
            return f"stop {state // 16 % 9} {state // 144 % 8}"
        return ["take", "take", "take", "take", "rows", "room", "rise", "rise", "put 1,,2", "put"][chosen - 6]

    def test_two_disks_one_behind_the_other_know_nothing_of_each_other(self):
        lines = ["put 5", "stop 0 3", "put 6", "rows"]
        first, second = Disk(4), Disk(4)
        self.assertEqual(played(first, lines), ["4", "done", "stopped", "asleep"])
        self.assertEqual(played(second, lines), ["4", "done", "stopped", "asleep"])
        self.assertEqual(words_on(first), words_on(second))

    def test_lines_and_answers_changed_behind_change_nothing(self):
        disk = Disk(4)
        lines = ["put 5", "rows"]
        answers = played(disk, lines)
        lines[0] = "take"
        lines.append("take")
        answers.clear()
        self.assertEqual(played(disk, ["rows"]), ["5"])
