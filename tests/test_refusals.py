"""The ten refusals, each met by what it is told for: caught as itself and by no other of the ten."""

import unittest

from ringlog import errors
from ringlog.carrying import carry
from ringlog.disk import Disk
from ringlog.log import Log
from ringlog.shell import order_of
from tests.model import NO_ROWS
from tests.test_errors import REFUSALS


def stopped_disk():
    disk = Disk(4)
    disk.stop_after(0, 0)
    return disk


def full_log():
    log = Log(Disk(4))
    for word in range(3):
        log.put([word])
    return log


def gone_disk():
    disk = Disk(4)
    Log(disk).put([5])
    carry(disk, Disk(4))
    return disk


def large_disk():
    disk = Disk(5)
    for word in range(4):
        Log(disk).put([word])
    return disk


def stopped_large_disk():
    disk = Disk(64)
    disk.stop_after(2, 5)
    return disk


def deeds():
    """Each refusal's name, a deed, and what it is handed."""
    for many in (3, 65, 0, -4, True, None, "8", [8]):
        yield "BadDisk", Disk, [many]
    for place in (-1, 4, True, False, None, "0"):
        yield "NoBlock", Disk(4).read, [place]
        yield "NoBlock", Disk(4).write, [place, [0] * 8]
        yield "NoBlock", stopped_disk().write, [place, None]
    for words in (None, [], [0] * 7, [0] * 9, (0,) * 8, [0] * 7 + [-1], [10 ** 15 + 1] * 8, [True] * 8, ["0"] * 8):
        yield "BadBlock", Disk(4).write, [0, words]
        yield "BadBlock", stopped_disk().write, [0, words]
    for count, part in ((-1, 0), (0, -1), (0, 8), (10 ** 15 + 1, 0), (True, 0), (0, True), (None, 0), (0, None)):
        yield "BadStop", Disk(4).stop_after, [count, part]
    yield "Stopped", stopped_disk().write, [0, [0] * 8]
    yield "Stopped", Log(stopped_disk()).put, [[5]]
    yield "Stopped", carry, [stopped_disk(), Disk(4)]
    yield "Stopped", carry, [large_disk(), stopped_large_disk()]
    for row in NO_ROWS:
        yield "BadRow", Log(Disk(4)).put, [row]
        yield "BadRow", full_log().put, [row]
        yield "BadRow", Log(stopped_disk()).put, [row]
        yield "Gone", Log(gone_disk()).put, [row]
    yield "Full", full_log().put, [[]]
    yield "Full", Log(stopped_disk()).put, [[0] * 9]
    yield "Full", carry, [large_disk(), Disk(4)]
    yield "Full", carry, [large_disk(), stopped_disk()]
    yield "Empty", Log(Disk(4)).take, []
    yield "Empty", Log(stopped_disk()).take, []
    yield "Gone", Log(gone_disk()).put, [[0] * 11]
    yield "Gone", Log(gone_disk()).take, []
    yield "Gone", carry, [gone_disk(), Disk(4)]
    yield "Gone", carry, [gone_disk(), gone_disk()]
    yield "Gone", carry, [gone_disk(), stopped_disk()]
    for line in ("", "putt", "put -1", "stop 0 8", "take 1"):
        yield "BadOrder", order_of, [line]


class RefusalsTest(unittest.TestCase):

    def test_each_is_caught_as_itself_alone(self):
        for name, deed, given in deeds():
            mine = getattr(errors, name)
            others = tuple(getattr(errors, other) for other in REFUSALS if other != name)
            with self.assertRaises(errors.LogError) as caught:
                deed(*given)
            refusal = caught.exception
            self.assertIs(type(refusal), mine, (name, given))
            self.assertIsInstance(refusal, ValueError)
            self.assertNotIsInstance(refusal, others)

    def test_each_can_be_caught_by_its_name_as_log_error_and_as_value_error(self):
        for chosen in (None, errors.LogError, ValueError):
            for name, deed, given in deeds():
                wanted = chosen or getattr(errors, name)
                others = [getattr(errors, other) for other in REFUSALS if other != name]
                with self.assertRaises(wanted):
                    try:
                        deed(*given)
                    except tuple(others):
                        self.fail(f"{name} was caught as another")

    def test_all_ten_are_met(self):
        self.assertEqual({name for name, _, _ in deeds()}, set(REFUSALS))
