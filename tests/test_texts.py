"""Promise 23: turns written and read as texts."""

import itertools
import unittest

from samples import AskingTest, FOREIGN, NO_TEXTS, jumble
from strikewheel.errors import NoText
from strikewheel.texts import read_turns, show_turns

HUGE = 10 ** 39

# Turns and their texts, both ways.
PAIRS = [
    ([], "none"), ([0], "0"), ([1], "1"), ([-1], "-1"), ([9], "9"), ([10], "10"), ([-10], "-10"), ([0, 0], "0 0"),
    ([1, -2, 3], "1 -2 3"), ([-1, 0, 1], "-1 0 1"), ([999999999], "999999999"), ([-999999999], "-999999999"),
    ([100000000], "100000000"), ([-100000000, 7], "-100000000 7"), ([1] * 80, " ".join(["1"] * 80)),
    ([0] * 200, "0 " * 199 + "0"), ([20, 300, 4005], "20 300 4005"),
]

NOT_READ = [
    "", " ", "  ", "-", "--1", "-0", "00", "01", "-01", "007", "000000000", "1 01", "1 -0", "1000000000", "-1000000000",
    "1234567890", "1 1234567890", "9" * 40, "9" * 4000, "1  2", " 1", "1 ", " 1 ", "1 2 ", "1\n", "\n1", "1\n2", "\n",
    "1 2\n", "none ", " none", "none\n", "None", "NONE", "non", "nonee", "none none", "none 1", "1 none", "+1", "1+",
    "1-", "1-2", "1.0", "1.", ".1", "1e3", "1_0", "0x1", "1,2", "1, 2", "1;2", "a", "1 a", "a 1", "one", "[1]", "(1)",
    "1/2", "\t1", "1\t2", "- 1", "1 - 2", "~", "-a", "-none", "1 -", "- ", "0 00", "-9 -", "'1'", "1:2", "!", "0 -",
    "0-",
]


def is_read(text):
    """Whether a text is one that is read, letter by letter as the document tells it."""
    if text == "none":
        return True
    for part in text.split(" "):
        figures = part[1:] if part.startswith("-") else part
        if figures == "" or len(figures) > 9 or figures.strip("0123456789") != "":
            return False
        if figures.startswith("0") and (len(figures) > 1 or part != figures):
            return False
    return True


class ShowTurnsTest(AskingTest):
    def test_turns(self):
        for turns, text in PAIRS:
            self.assert_told(show_turns, (turns,), text)

    def test_turns_of_many_figures(self):
        self.assert_told(show_turns, ([HUGE],), "1" + "0" * 39)
        self.assert_told(show_turns, ([-HUGE, HUGE - 1],), "-1" + "0" * 39 + " " + "9" * 39)
        self.assert_told(show_turns, ([1000000000, -1234567890],), "1000000000 -1234567890")


class ReadTurnsTest(AskingTest):
    def test_texts(self):
        for turns, text in PAIRS:
            self.assert_told(read_turns, (text,), turns)

    def test_every_count_of_figures(self):
        for count in range(1, 10):
            for text in ("7" * count, "1" + "0" * (count - 1), "-" + "9" * count):
                self.assert_told(read_turns, (text,), [int(text)])
        for count in (10, 11, 40, 100):
            for text in ("7" * count, "1" + "0" * (count - 1), "-" + "9" * count):
                self.assert_refused(NoText, read_turns, text)
                self.assert_refused(NoText, read_turns, "1 " + text)
                self.assert_refused(NoText, read_turns, text + " 1")

    def test_what_is_not_read(self):
        for text in NOT_READ:
            self.assertFalse(is_read(text))
            self.assert_refused(NoText, read_turns, text)

    def test_marks_of_all_sorts(self):
        for mark in [chr(code) for code in range(32, 127)] + ["\n", "\r", "\t", "\r\n", "\u0661", "\u00b2"] + FOREIGN:
            for text in (mark, mark + "1", "1" + mark, "1" + mark + "2", "1 " + mark, mark + " 1", "5 " + mark + " 1"):
                if is_read(text):
                    self.assert_told(read_turns, (text,), [int(part) for part in text.split(" ")])
                else:
                    self.assert_refused(NoText, read_turns, text)

    def test_all_short_texts(self):
        for count in range(6):
            for marks in itertools.product("01- 7", repeat=count):
                text = "".join(marks)
                if is_read(text):
                    self.assertEqual(read_turns(text), [int(part) for part in text.split(" ")], text)
                else:
                    with self.assertRaises(NoText, msg=text):
                        read_turns(text)

    def test_things_that_are_no_text(self):
        for thing in NO_TEXTS + [[1], [1, 2], ["1"], ["none"], (1,), [[]], [None], b"1", 5]:
            self.assert_refused(NoText, read_turns, thing)

    def test_a_text_of_four_thousand_signs(self):
        turns = jumble(399, 10 ** 8, 10 ** 9 - 1, 4)
        text = " ".join(str(turn) for turn in turns) + " 123456789"
        self.assertEqual(len(text), 3999)
        self.assert_told(read_turns, (text,), turns + [123456789])
        self.assert_refused(NoText, read_turns, text + " ")
        self.assert_refused(NoText, read_turns, text + "0")

    def test_what_is_written_is_read(self):
        for count in (0, 1, 2, 7, 80):
            for low, high in ((-1, 1), (-30, 30), (1 - 10 ** 9, 10 ** 9 - 1)):
                turns = jumble(count, low, high, count + 1)
                self.assertEqual(read_turns(show_turns(turns)), turns)


if __name__ == "__main__":
    unittest.main()
