"""Promises 8 and 9: turns, what they strike, plans, and what turns cost."""

import itertools
import unittest

from samples import AskingTest, FOREIGN, NO_SIGNS, NO_SLACKS, NO_TEXTS, NO_WHEELS, NO_WORDS, price, spoilt
from strikewheel.errors import NoSlack, NoWheel, NoWord
from strikewheel.plans import cost, is_plan, struck

ALPHABET = "abcdefghijklmnopqrstuvwxyz"


def stepped(wheel, turns):
    """What turns strike, step by single step; great turns by their rest first."""
    place = 0
    signs = ""
    for turn in turns:
        if abs(turn) > 1000:
            turn -= turn // len(wheel) * len(wheel)
        for unused in range(abs(turn)):
            place += 1 if turn > 0 else -1
            if place == len(wheel):
                place = 0
            if place < 0:
                place = len(wheel) - 1
        signs += wheel[place]
    return signs


class StruckTest(AskingTest):
    def test_no_turns(self):
        for wheel in ("a", "abc", "z" * 30):
            self.assert_told(struck, (wheel, []), "")

    def test_by_hand(self):
        for turns, word in (
            ([0], "a"), ([1], "b"), ([3], "d"), ([-1], "d"), ([-3], "b"), ([0, 0], "aa"),
            ([1, 1, 1], "bcd"), ([1, -1], "ba"), ([-1, -1], "dc"), ([2, 0, -2], "cca"),
            ([3, 2], "db"), ([-3, -2], "bd"), ([4], "a"), ([-4], "a"), ([5, 9], "bc"), ([-5, -9], "dc"),
        ):
            self.assert_told(struck, ("abcd", turns), word)

    def test_a_wheel_of_one_place(self):
        self.assert_told(struck, ("q", [0, 1, -1, 5, 10 ** 39]), "qqqqq")

    def test_all_short_turns(self):
        for wheel in ("ab", "abc", "aab"):
            for turns in itertools.product(range(-4, 5), repeat=3):
                self.assertEqual(struck(wheel, list(turns)), stepped(wheel, turns))

    def test_more_than_a_round(self):
        for wheel in ("strikewheel", ALPHABET + "abcd", "mississippi"):
            turns = [1, -2, 40, -75, 0, 100, 999, -1000, 30, -30, 11, -11]
            self.assert_told(struck, (wheel, turns), stepped(wheel, turns))

    def test_numbers_of_forty_figures(self):
        # 10 is the wheel's count of places, so the last figure alone counts.
        great = 10 ** 40 - 1
        self.assert_told(struck, ("abcdefghij", [great, great, -great, -great, -great]), "jijab")
        self.assert_told(struck, ("abcdefghij", [10 ** 39 + 3, -(10 ** 39) - 5]), "di")
        for wheel in ("abc", "strikewheel", ALPHABET + "abcd"):
            turns = [great, -great, 10 ** 39, 10 ** 39 + 7, 1 - 10 ** 39, great, 3]
            self.assert_told(struck, (wheel, turns), stepped(wheel, turns))

    def test_two_hundred_turns(self):
        turns = [(at * at * 37 + 11) % 101 - 50 for at in range(200)]
        for wheel in ("abcdefg", ALPHABET, "z" * 30):
            self.assert_told(struck, (wheel, turns), stepped(wheel, turns))
        great = [(-1) ** at * (10 ** 39 + at * 7) for at in range(200)]
        self.assert_told(struck, ("strikewheel", great), stepped("strikewheel", great))


class IsPlanTest(AskingTest):
    def test_by_hand(self):
        for wheel, word, turns, expected in (
            ("abc", "", [], True), ("abc", "a", [0], True), ("abc", "b", [1], True), ("abc", "b", [-2], True),
            ("abc", "cab", [2, 1, 1], True), ("abc", "cab", [-1, 1, 1], True), ("abc", "cab", [-1, 1, -1], False),
            ("a", "aaa", [0, 0, 0], True), ("aa", "aa", [1, -1], True), ("abab", "bb", [3, 2], True),
        ):
            self.assert_told(is_plan, (wheel, word, turns), expected)

    def test_a_turn_too_many_or_too_few(self):
        self.assert_told(is_plan, ("abc", "", [0]), False)
        self.assert_told(is_plan, ("abc", "a", []), False)
        self.assert_told(is_plan, ("abc", "ab", [0]), False)
        self.assert_told(is_plan, ("abc", "ab", [0, 1, 0]), False)
        self.assert_told(is_plan, ("abc", "ab", [0, 1]), True)

    def test_turns_of_a_whole_round(self):
        self.assert_told(is_plan, ("abc", "a", [3]), False)
        self.assert_told(is_plan, ("abc", "a", [-3]), False)
        self.assert_told(is_plan, ("abc", "c", [2]), True)
        self.assert_told(is_plan, ("abc", "b", [-2]), True)
        self.assert_told(is_plan, ("abc", "b", [4]), False)
        self.assert_told(is_plan, ("abc", "b", [-5]), False)
        self.assert_told(is_plan, ("a", "a", [1]), False)
        self.assert_told(is_plan, ("a", "a", [-1]), False)
        for wheel in ("z" * 29, "z" * 30):
            for turn in (len(wheel) - 1, 1 - len(wheel)):
                self.assert_told(is_plan, (wheel, "z", [turn]), True)
            for turn in (len(wheel), -len(wheel)):
                self.assert_told(is_plan, (wheel, "z", [turn]), False)
                self.assert_told(is_plan, (wheel, "zzz", [0, 1, turn]), False)
                self.assert_told(is_plan, (wheel, "zzz", [turn, 1, 0]), False)

    def test_great_turns_are_in_no_plan(self):
        self.assert_told(is_plan, ("abcdefghij", "a", [10 ** 39]), False)
        self.assert_told(is_plan, ("abcdefghij", "a", [-(10 ** 39)]), False)

    def test_a_word_that_is_not_struck(self):
        self.assert_told(is_plan, ("abc", "b", [0]), False)
        self.assert_told(is_plan, ("abc", "ba", [1, 1]), False)
        self.assert_told(is_plan, ("abc", "d", [0]), False)
        self.assert_told(is_plan, ("abc", "ad", [0, 1]), False)

    def test_all_short_turns(self):
        words = ["".join(signs) for count in range(3) for signs in itertools.product("abc", repeat=count)]
        for wheel in ("a", "ab", "aba", "abc"):
            places = len(wheel)
            for count in range(4):
                for turns in itertools.product(range(-places - 1, places + 2), repeat=count):
                    within = all(-places < turn < places for turn in turns)
                    for word in words:
                        expected = within and len(turns) == len(word) and stepped(wheel, turns) == word
                        self.assertIs(is_plan(wheel, word, list(turns)), expected, (wheel, word, turns))

    def test_eighty_and_two_hundred_turns(self):
        self.assert_told(is_plan, ("ab", "ba" * 40, [1] * 80), True)
        self.assert_told(is_plan, ("ab", "ba" * 40, [-1, 1] * 40), True)
        self.assert_told(is_plan, ("ab", "ba" * 40, [1] * 79 + [0]), False)
        self.assert_told(is_plan, ("ab", "ba" * 40, [1] * 81), False)
        self.assert_told(is_plan, ("ab", "ba" * 40, [1] * 200), False)


class CostTest(AskingTest):
    def test_by_hand(self):
        for turns, slack, expected in (
            ([], 9, 0), ([0], 9, 0), ([5], 9, 5), ([-5], 9, 5), ([1, 2, 3], 9, 6), ([-1, -2, -3], 9, 6),
            ([1, -1], 0, 2), ([1, -1], 1, 3), ([1, -1], 9, 11), ([-1, 1], 4, 6), ([1, -1, 1], 4, 11),
            ([2, 2, -3, -3, 4], 5, 24),
        ):
            self.assert_told(cost, (turns, slack), expected)

    def test_noughts_keep_the_way(self):
        for turns, slack, expected in (
            ([1, 0, -1], 7, 9), ([-1, 0, 1], 7, 9), ([1, 0, 1], 7, 2), ([-1, 0, -1], 7, 2),
            ([1, 0, 0, 0, -1], 7, 9), ([1, 0, 0, 0, 1], 7, 2), ([0, 0, 3], 7, 3), ([0, 0, -3], 7, 3),
            ([0, 1, 0, -1, 0, 0, 1, 0], 7, 17), ([0, 0, 0], 7, 0),
        ):
            self.assert_told(cost, (turns, slack), expected)

    def test_all_short_turns_by_all_slacks(self):
        for count in range(6):
            for turns in itertools.product((-3, -1, 0, 2), repeat=count):
                for slack in range(10) if count < 5 else (3,):
                    self.assertEqual(cost(list(turns), slack), price(turns, slack), (turns, slack))

    def test_great_and_many_turns(self):
        great = 10 ** 40 - 1
        self.assert_told(cost, ([great, -great, 0, great], 9), 3 * great + 18)
        turns = [(at * at * 37 + 11) % 101 - 50 for at in range(200)]
        for slack in (0, 1, 9):
            self.assert_told(cost, (turns, slack), price(turns, slack))
        self.assert_told(cost, ([1, -1] * 100, 9), 200 + 199 * 9)


class RefusalTest(AskingTest):
    def test_no_wheel(self):
        for text in NO_WHEELS:
            for turns in ([], [0], [1, -1], [10 ** 39]):
                self.assert_refused(NoWheel, struck, text, turns)
                self.assert_refused(NoWheel, is_plan, text, "a", turns)

    def test_no_word(self):
        for text in NO_WORDS:
            for turns in ([], [0], [0] * 81, [10 ** 39]):
                self.assert_refused(NoWord, is_plan, "ab", text, turns)

    def test_no_slack(self):
        for slack in NO_SLACKS:
            for turns in ([], [0], [1, -1]):
                self.assert_refused(NoSlack, cost, turns, slack)

    def test_a_truth_is_no_slack(self):
        for thing in NO_TEXTS[6:] + ["", "1"]:
            self.assert_refused(NoSlack, cost, [1, -1], thing)

    def test_the_wheel_goes_ahead_of_the_word(self):
        for wheel, word in itertools.product(NO_WHEELS, NO_WORDS):
            self.assert_refused(NoWheel, is_plan, wheel, word, [0])

    def test_every_mark_that_is_no_sign(self):
        for mark in NO_SIGNS + FOREIGN:
            for text in spoilt(mark):
                self.assert_refused(NoWheel, struck, text, [0])
                self.assert_refused(NoWord, is_plan, "ab", text, [0])


if __name__ == "__main__":
    unittest.main()
