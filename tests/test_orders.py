"""order_of: which lines are orders, and what each tells."""

import re
import unittest

from ringlog import shell
from ringlog.errors import BadOrder, LogError
from ringlog.shell import order_of

NUMBER = "(0|[1-9][0-9]*)"
PUT = re.compile(f"put( {NUMBER}(,{NUMBER})*)?")
STOP = re.compile(f"stop {NUMBER} {NUMBER}")


def expected_of(line):
    """What order_of tells of a line that is not too long, told once more from the document; None where it refuses."""
    if line in ("take", "rows", "room", "rise"):
        return (line,)
    if PUT.fullmatch(line):
        row = [int(word) for word in line[4:].split(",") if word]
        return ("put", row) if len(row) < 12 and max(row + [0]) < 10 ** 9 else None
    if STOP.fullmatch(line):
        count, part = (int(word) for word in line[5:].split(" "))
        return ("stop", count, part) if count <= 10 ** 15 and part < 8 else None
    return None


class OrderCase(unittest.TestCase):

    def assert_bad(self, line):
        with self.assertRaises(LogError, msg=repr(line)) as caught:
            order_of(line)
        self.assertIs(type(caught.exception), BadOrder)

    def assert_told(self, line, expected):
        told = order_of(line)
        self.assertEqual(told, expected)
        self.assertIs(type(told), tuple)
        self.assertIs(type(told[0]), str)
        for one in told[1:]:
            self.assertIs(type(one), list if told[0] == "put" else int)

    def check(self, line):
        expected = expected_of(line)
        if expected is None:
            self.assert_bad(line)
        else:
            self.assert_told(line, expected)


class OrderTest(OrderCase):

    def test_the_function_is_defined_in_its_file(self):
        self.assertEqual(order_of.__module__, "ringlog.shell")
        self.assertIs(shell.order_of, order_of)
        self.assertEqual(order_of(line="take"), ("take",))

    def test_each_word_alone(self):
        for word in ("take", "rows", "room", "rise"):
            self.assert_told(word, (word,))
        self.assert_told("put", ("put", []))
        self.assert_bad("stop")

    def test_each_word_with_too_much(self):
        for word in ("take", "rows", "room", "rise"):
            for more in ("", "0", "1", "1,2", "1 2", "take", "-"):
                self.assert_bad(f"{word} {more}")
        for more in ("1 2", "1,2 3", "1, 2", "1 ,2", "1 2 3", "1,2 ", "put"):
            self.assert_bad(f"put {more}")
        for more in ("", "0", "0,0", "0 0 0", "0 0,0", "0 0 ", "0,0 0", "0 stop", "0 -"):
            self.assert_bad(f"stop {more}")

    def test_puts(self):
        self.assert_told("put 5", ("put", [5]))
        self.assert_told("put 0", ("put", [0]))
        self.assert_told("put 0,0,0", ("put", [0, 0, 0]))
        self.assert_told("put 10,20,30", ("put", [10, 20, 30]))
        self.assert_told("put 999999999", ("put", [999999999]))
        self.assert_told("put 1,999999999,0", ("put", [1, 999999999, 0]))
        for word in ("1000000000", "1999999999", "9999999999", str(10 ** 15), "9" * 30):
            self.assert_bad(f"put {word}")
            self.assert_bad(f"put 1,{word}")
            self.assert_bad(f"put {word},1")

    def test_eleven_words_and_twelve(self):
        for many in range(1, 12):
            row = list(range(5, 5 + many))
            self.assert_told("put " + ",".join(map(str, row)), ("put", row))
        self.assert_told("put " + ",".join(["999999999"] * 11), ("put", [999999999] * 11))
        for many in (12, 13, 22, 500):
            self.assert_bad("put " + ",".join(["0"] * many))
        self.assert_bad("put 1,2,3,4,5,6,7,8,9,10,11,12")
        self.assert_bad("put 1,2,3,4,5,6,7,8,9,10,11,")

    def test_stops(self):
        for part in range(8):
            self.assert_told(f"stop 0 {part}", ("stop", 0, part))
            self.assert_told(f"stop {10 ** 15} {part}", ("stop", 10 ** 15, part))
            self.assert_bad(f"stop {10 ** 15 + 1} {part}")
            self.assert_bad(f"stop {10 ** 16} {part}")
        self.assert_told("stop 1000000000 7", ("stop", 1000000000, 7))
        self.assert_told("stop 999999999999999 7", ("stop", 10 ** 15 - 1, 7))
        for part in ("8", "9", "10", "70", "07", "-1", "+1", "", "7.0", "x"):
            self.assert_bad(f"stop 3 {part}")
        for count in ("-1", "+1", "00", "03", "3.", "1e3", "1_0", "", "x", "9999999999999999"):
            self.assert_bad(f"stop {count} 3")

    def test_noughts_ahead_and_signs(self):
        signed = ("-0", "+0", "-1", "+1", "- 1", "--1", "-")
        for word in signed + ("00", "01", "007", "0" * 20, "0x1", "0b1", "1.0", "1e2", "1_0"):
            for line in (f"put {word}", f"put {word},5", f"put 5,{word}", f"stop {word} 0", f"stop 0 {word}"):
                self.assert_bad(line)

    def test_commas(self):
        for words in (",", ",,", ",1", "1,", "1,,2", ",1,2", "1,2,", "1;2", "1.2", "[1,2]", "(1)"):
            self.assert_bad(f"put {words}")
            self.assert_bad(f"put{words}")
        for line in ("put,", ",put", "take,", "stop,0,0", "stop 0,0", "put,1", "rows,"):
            self.assert_bad(line)

    def test_blanks(self):
        marks = "\t\n\r\v\f\x00\x1c\x85\xa0\u2003\u3000\ufeff\u200b"
        for line in ("put", "put 1,2", "take", "rows", "room", "stop 3 4", "rise"):
            self.assertIsNotNone(order_of(line))
            for at in range(len(line) + 1):
                self.assert_bad(line[:at] + "  " + line[at:])
            for mark in marks:
                for at in range(len(line) + 1):
                    self.assert_bad(line[:at] + mark + line[at:])
                if " " in line:
                    self.assert_bad(line.replace(" ", mark))
            for line_with in (" " + line, line + " ", " " + line + " ", line + "\r\n"):
                self.assert_bad(line_with)

    def test_empty_and_blank_texts(self):
        for line in ("", " ", "  ", "\n", "\t", ",", "0", "5", "-", "none", "done", "bad order"):
            self.assert_bad(line)

    def test_other_letters(self):
        for word in ("put", "take", "rows", "room", "stop", "rise"):
            wants = {"stop": " 0 0"}.get(word, "")
            for other in (word.upper(), word.title(), word[0] + word[1:].upper()):
                self.assert_bad(other + wants)
            for other in (word + "s", word[:-1], word * 2, word[1:]):
                self.assert_bad(other + wants)
        for line in ("PUT 1", "Put 1,2", "STOP 0 0", "Stop 1 2", "\u017ftop 0 0"):
            self.assert_bad(line)
        for line in ("scars", "gone", "carry", "go_on", "help", "quit"):
            self.assert_bad(line)

    def test_figures_of_other_scripts(self):
        for figure in "\u0661\u06f1\u0967\uff11\u00b2\u2460\u2081\U0001d7ce\u4e00\u00bd":
            for line in (f"put {figure}", f"put 1{figure}", f"put {figure}1", f"put 1,{figure}"):
                self.assert_bad(line)
            for line in (f"stop {figure} 0", f"stop 0 {figure}", f"stop 1{figure} 0"):
                self.assert_bad(line)

    def test_numbers_of_thousands_of_figures(self):
        for many in (17, 100, 4300, 4301, 10000):
            for word in ("1" * many, "9" * many, "0" * many):
                for line in (f"put {word}", f"put 1,{word}", f"stop {word} 0", f"stop 0 {word}"):
                    self.assert_bad(line)

    def test_each_line_with_one_letter_more_less_or_another(self):
        lines = (
            "put", "put 0", "put 10,20", "put 999999999", "put 1,2,3,4,5,6,7,8,9,10,11", "take", "rows", "room",
            "stop 0 0", "stop 10 7", "stop 1000000000000000 0", "rise",
        )
        for line in lines:
            self.check(line)
            for at in range(len(line) + 1):
                self.check(line[:at] + line[at + 1:])
                self.check(line[:at])
                for mark in "0179, -+.\n\taPut\u0663":
                    self.check(line[:at] + mark + line[at:])
                    self.check(line[:at] + mark + line[at + 1:])

    def test_every_short_text(self):
        """All that up to four such pieces, one behind the other, make."""
        texts = {""}
        for _ in range(4):
            texts |= {text + more for text in texts for more in ("put", "stop", "take", " ", ",", "0", "12", "7")}
        for text in texts:
            self.check(text)

    def test_a_row_told_and_changed_inside_changes_nothing(self):
        line = "put 1,2"
        told = order_of(line)
        told[1].append(77)
        self.assertEqual(order_of(line), ("put", [1, 2]))
        order_of("put")[1].append(77)
        self.assertEqual(order_of("put"), ("put", []))
