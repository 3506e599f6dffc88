"""Orders in lines of text, and the answers of a log to them."""

from ringlog.disk import MOST_COUNT, MOST_PART
from ringlog.errors import BadOrder, Empty, Full, Gone, Stopped
from ringlog.log import MOST_WORD_OF_ROW, MOST_WORDS, Log

# The orders that want nothing.
BARE_ORDERS = ("take", "rows", "room", "rise")


def order_of(line):
    """Tell the order's word and what it wants."""
    word, *wanted = line.split(" ")
    if word == "put" and not wanted:
        return ("put", [])
    if word == "put" and len(wanted) == 1:
        return ("put", _row_in(wanted[0]))
    if word == "stop" and len(wanted) == 2:
        return ("stop", _number_in(wanted[0], MOST_COUNT), _number_in(wanted[1], MOST_PART))
    if word in BARE_ORDERS and not wanted:
        return (word,)
    raise BadOrder("no such order")


def played(disk, lines):
    """Tell the answers to the orders in these lines, on a log that comes up on the disk first."""
    player = Player(disk)
    return [player.answer(line) for line in lines]


def _row_in(text):
    row = [_number_in(word, MOST_WORD_OF_ROW) for word in text.split(",")]
    if len(row) > MOST_WORDS:
        raise BadOrder("a row has eleven words at the most")
    return row


def _number_in(text, most):
    """Tell the number from 0 to most that is written by this text."""
    # The length comes first: Python refuses to make a number of some thousands of figures.
    if len(text) <= len(str(most)) and text.isascii() and text.isdigit():
        number = int(text)
        # A nought ahead makes another text of the same number.
        if number <= most and str(number) == text:
            return number
    raise BadOrder("no number within its bounds")


def _text_of(row):
    if not row:
        return "-"
    return ",".join([str(word) for word in row])


class Player:
    """A log that answers orders, and falls asleep where its disk stops."""

    def __init__(self, disk):
        self._disk = disk
        self._log = Log(disk)
        self._asleep = False

    def answer(self, line):
        """Do the order in this line, and tell the answer."""
        try:
            order = order_of(line)
        except BadOrder:
            return "bad order"
        if order[0] == "stop":
            self._disk.stop_after(order[1], order[2])
            return "done"
        if order[0] == "rise":
            self._rise()
            return "done"
        if self._asleep:
            return "asleep"
        return self._answer_awake(order)

    def _rise(self):
        self._disk.go_on()
        self._log = Log(self._disk)
        self._asleep = False

    def _answer_awake(self, order):
        if order[0] == "rows":
            return " ".join([_text_of(row) for row in self._log.rows()]) or "none"
        if order[0] == "room":
            return str(self._log.room())
        try:
            return self._do(order)
        except Gone:
            return "gone"
        except Full:
            return "full"
        except Empty:
            return "empty"
        except Stopped:
            self._asleep = True
            return "stopped"

    def _do(self, order):
        """Put or take, and tell what the log tells."""
        if order[0] == "put":
            return str(self._log.put(order[1]))
        return _text_of(self._log.take())
