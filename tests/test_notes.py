import re
import unittest
from itertools import product

from helper import refusal
from straysign.errors import NoLine
from straysign.notes import line_read, shown

# Each line and what it says.
LINES = [("", []), ("0", [0]), ("7", [7]), ("10", [10]), ("?", [None]), ("0 0", [0, 0]), ("? ?", [None, None]),
         ("1 ? 20", [1, None, 20]), ("? 0 ? 996", [None, 0, None, 996]), ("100", [100]),
         ("9" * 100, [10**100 - 1]), ("1" + "0" * 99 + " ?", [10**99, None]), ("3 5 7 9", [3, 5, 7, 9])]

# What point 12 says, as a pattern.
NUMBER_OR_GAP = r"(0|[1-9][0-9]*|\?)"
LINE = re.compile(rf"({NUMBER_OR_GAP}( {NUMBER_OR_GAP})*)?")

NO_LINES = ["1  2", "1 ", "01", "-1", "+1", "a", "??", " ", "  ", " 1", "1 2 ", " 1 2", "00", "-0", "+0", "1.", "1.0",
            ".5", "1,2", "1, 2", "0x", "0x1", "1_0", "1?", "?1", "?  ?", " ?", "? ", "1\t2", "\t", "1\t", "\t1", "\n",
            "1\n", "\n1", "1\n2", "? \n", "1\r", "1\r\n", "1\x0b2", "1\x0c2", "1\x1c2", "\x00", "1\x00", "\x7f", "1e3",
            "0b1", "1j", "None", "None 1", "True", "[1]", "(1)", "1;2", "1 -2", "1 +2", "1 02", "? 00", "1 a 2",
            "--1", "1-", "'1'", "\"", "1/2", "1:2", "!", "1 2  3", "0 " * 3, "0" * 100, "0" + "9" * 99, "-" + "9" * 99,
            "\\", "1\\n", "%", "nan", "inf"]


class Shown(unittest.TestCase):
    def test_each_line(self):
        for line, signs in LINES:
            self.assertEqual(shown(signs), line)

    def test_a_thousand_signs(self):
        self.assertEqual(shown([None] * 1000), "? " * 999 + "?")
        self.assertEqual(shown(list(range(1000))), " ".join(str(number) for number in range(1000)))

    def test_signs_stay_as_they_are(self):
        signs = [1, None, 3]
        shown(signs)
        self.assertEqual(signs, [1, None, 3])


class LineRead(unittest.TestCase):
    def test_each_line(self):
        for line, signs in LINES:
            answer = line_read(line)
            self.assertIsInstance(answer, list)
            self.assertEqual(answer, signs)

    def test_what_is_shown_is_read_again(self):
        for number in list(range(1200)) + [10**power + shift for power in range(1, 100) for shift in (-1, 0, 1)]:
            for signs in ([number], [None, number], [number, 0, None, number]):
                self.assertEqual(line_read(shown(signs)), signs)

    def test_a_thousand_signs(self):
        signs = [None if number % 7 == 0 else number for number in range(1000)]
        self.assertEqual(line_read(shown(signs)), signs)

    def test_every_other_line_is_refused(self):
        for line in NO_LINES:
            self.assertIs(refusal(line_read, line), NoLine, repr(line))

    def check(self, line):
        if LINE.fullmatch(line):
            self.assertEqual(shown(line_read(line)), line)
        else:
            self.assertIs(refusal(line_read, line), NoLine, repr(line))

    def test_every_short_line_of_some_signs(self):
        for length in range(6):
            for letters in product("01? -a\n", repeat=length):
                self.check("".join(letters))

    def test_every_ascii_sign_by_itself_and_beside_others(self):
        for number in range(128):
            sign = chr(number)
            for line in (sign, sign * 2, "1" + sign, sign + "1", "1" + sign + "2", "? " + sign, sign + " ?",
                         "1 " + sign + " 2", "1" + sign + " 2"):
                self.check(line)

    def test_the_answer_is_a_new_list_each_time(self):
        line_read("").append(1)
        self.assertEqual(line_read(""), [])
