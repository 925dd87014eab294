"""Promise 4: signs and words."""

import copy
import string
import unittest

from samples import FOREIGN, NO_SIGNS, NO_TEXTS, spoilt
from strikewheel.signs import is_word


class IsWordTest(unittest.TestCase):
    def assert_told(self, thing, expected):
        with self.subTest(thing=thing):
            self.assertIs(is_word(thing), expected)

    def test_each_small_letter_is_a_word(self):
        for sign in string.ascii_lowercase:
            self.assert_told(sign, True)

    def test_words_of_all_lengths(self):
        for count in range(0, 81):
            self.assert_told("z" * count, True)
        self.assert_told(string.ascii_lowercase, True)
        self.assert_told((string.ascii_lowercase * 4)[:80], True)

    def test_more_than_eighty_signs(self):
        for count in (81, 82, 100, 160, 4000):
            self.assert_told("a" * count, False)
        self.assert_told((string.ascii_lowercase * 4)[:81], False)

    def test_marks_that_are_no_signs(self):
        for mark in NO_SIGNS + FOREIGN:
            for text in spoilt(mark):
                self.assert_told(text, False)

    def test_a_mark_in_a_full_length_text(self):
        for mark in ("A", "5", " ", "-", "\n"):
            self.assert_told(mark + "a" * 79, False)
            self.assert_told("a" * 40 + mark + "a" * 39, False)
            self.assert_told("a" * 79 + mark, False)
            self.assert_told("a" * 80 + mark, False)

    def test_what_is_no_text(self):
        for thing in NO_TEXTS:
            self.assert_told(thing, False)

    def test_nothing_is_changed_and_the_answer_stays(self):
        for thing in NO_TEXTS + ["", "abc", "aBc", "a" * 81]:
            with self.subTest(thing=thing):
                before = copy.deepcopy(thing)
                self.assertIs(is_word(thing), is_word(thing))
                self.assertEqual(thing, before)


if __name__ == "__main__":
    unittest.main()
