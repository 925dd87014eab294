"""Promise 28: one sign more."""

import itertools
import unittest

from samples import AskingTest, FOREIGN, NO_SIGNS, NO_SLACKS, NO_TEXTS, NO_WHEELS, NO_WORDS
from samples import all_plans, price, scrambled, spoilt
from strikewheel.errors import Lacks, NoSlack, NoWheel, NoWord, TooMany
from strikewheel.least import least_cost
from strikewheel.more import best_more

ALPHABET = "abcdefghijklmnopqrstuvwxyz"
HUGE = 10 ** 39


def by_plans(wheel, word, slack):
    """The least cost of a word, all plans gone through."""
    return min(price(plan, slack) for plan in all_plans(wheel, word))


def best_by(costing, wheel, word, slack):
    """The best sign more: all places and all signs of the word gone through, in their order."""
    best = None
    for place in range(len(wheel) + 1):
        for sign in ALPHABET:
            if sign not in word:
                continue
            signs = list(wheel)
            signs.insert(place, sign)
            wider = "".join(signs)
            if set(word) <= set(wider):
                dear = costing(wider, word, slack)
                if best is None or dear < best[2]:
                    best = (place, sign, dear)
    return best


class BestMoreTest(AskingTest):
    def test_by_hand(self):
        self.assert_told(best_more, ("abc", "d", 0), (0, "d", 0))
        self.assert_told(best_more, ("abc", "ad", 0), (1, "d", 1))
        self.assert_told(best_more, ("abc", "c", 0), (0, "c", 0))
        self.assert_told(best_more, ("q", "q", 9), (0, "q", 0))
        self.assert_told(best_more, ("q", "r", 9), (0, "r", 0))
        self.assert_told(best_more, ("abcdef", "adad", 0), (1, "d", 3))
        self.assert_told(best_more, ("abcdef", "ada", 5), (3, "a", 4))

    def test_the_least_place_of_several(self):
        self.assert_told(best_more, ("aaaa", "a", 3), (0, "a", 0))
        self.assert_told(best_more, ("abab", "ab", 3), (0, "a", 1))
        self.assert_told(best_more, ("abcd", "abcd", 1), (3, "d", 3))

    def test_the_least_sign_of_several(self):
        # At place 0 each of the word's signs makes it as cheap, and none cheaper elsewhere.
        self.assert_told(best_more, ("bac", "caa", 1), (0, "a", 2))
        self.assert_told(best_more, ("cab", "bac", 1), (0, "a", 3))

    def test_a_lesser_place_goes_ahead_of_a_lesser_sign(self):
        self.assert_told(best_more, ("ba", "ba", 0), (0, "b", 1))

    def test_a_place_in_the_midst_and_at_the_end(self):
        told = {best_more(wheel, word, slack)[0] - len(wheel)
                for wheel in ("abc", "aabc", "abcd") for slack in (0, 3)
                for word in ("abca", "acb", "acac", "dacb", "bdb", "cdab") if len(set(word) - set(wheel)) < 2}
        self.assertIn(0, told)
        self.assertGreater(len(told), 2)

    def test_against_all_plans(self):
        for wheel in ("a", "b", "ab", "ba", "aa", "abc", "cab", "aab", "bca"):
            for count in (1, 2, 3):
                for signs in itertools.product("abcd", repeat=count):
                    word = "".join(signs)
                    for slack in (0, 2):
                        self.assert_best(by_plans, wheel, word, slack)

    def assert_best(self, costing, wheel, word, slack):
        lacking = set(word) - set(wheel)
        if len(lacking) > 1:
            self.assert_refused(Lacks, best_more, wheel, word, slack)
        else:
            self.assertEqual(best_more(wheel, word, slack), best_by(costing, wheel, word, slack), (wheel, word, slack))

    def test_greater_wheels_and_longer_words(self):
        for wheel in ("strikewheel", "abcdefghijkl", "aabbccddeeff", "abababababab", "wheel", "a" * 12):
            signs = sorted(set(wheel))
            for word in scrambled(signs, 1, 20, 3) + scrambled(signs, 1, 7, 4) + scrambled(signs, 1, 1, 5):
                for slack in (0, 4):
                    for asked in (word, word[:-1] + "z", "zz"):
                        expected = best_by(least_cost, wheel, asked, slack)
                        self.assertEqual(best_more(wheel, asked, slack), expected, (wheel, asked, slack))
                        self.assertEqual(expected[1] == "z", "z" in asked)

    def test_asked_again(self):
        for wheel, word, slack in (("strikewheel", "whisk", 2), ("abc", "cadac", 1), ("abcdefghijkl", "lkjihgfed", 0)):
            self.assert_told(best_more, (wheel, word, slack), best_by(least_cost, wheel, word, slack))

    def test_no_dearer_than_without_by_its_own_sign(self):
        # The told cost is that of the wheel with the sign more.
        for wheel in ("strike", "abcdef", "wheel"):
            for word in scrambled(sorted(set(wheel)), 4, 9, 2):
                place, sign, least = best_more(wheel, word, 1)
                self.assertEqual(least, least_cost(wheel[:place] + sign + wheel[place:], word, 1))


class LimitsTest(AskingTest):
    def test_twelve_and_thirteen_places(self):
        self.assert_told(best_more, (ALPHABET[:12], "a", 0), (0, "a", 0))
        self.assert_told(best_more, (ALPHABET[:12], "m", 0), (0, "m", 0))
        self.assert_told(best_more, ("a" * 12, "ab", 0), (1, "b", 1))
        for wheel in (ALPHABET[:13], "a" * 13, ALPHABET, "a" * 30, "ab" * 7):
            for word in ("a", "ab", "az", "zy", "", "a" * 20, "a" * 21):
                self.assert_refused(TooMany, best_more, wheel, word, 0)

    def test_words_of_none_one_twenty_and_twenty_one_signs(self):
        self.assert_told(best_more, ("ab", "b", 0), (0, "b", 0))
        self.assert_told(best_more, ("ab", "b" * 20, 0), (0, "b", 0))
        self.assert_told(best_more, ("ab", "c" * 20, 0), (0, "c", 0))
        self.assertEqual(best_more("abc", "ab" * 10, 1), best_by(least_cost, "abc", "ab" * 10, 1))
        for word in ("", "b" * 21, "c" * 21, "xyz" * 7, "ab" * 40, "a" * 80):
            for wheel in ("ab", "q", "a" * 12):
                self.assert_refused(TooMany, best_more, wheel, word, 0)

    def test_lacks(self):
        for wheel, word in (("abc", "de"), ("abc", "ade"), ("abc", "dea"), ("a", "bc"), ("abc", "xyz"), ("ab", "cbd")):
            self.assert_refused(Lacks, best_more, wheel, word, 0)
            self.assert_refused(Lacks, best_more, wheel, word, 9)
        # One sign that is lacking twice over is one sign.
        self.assert_told(best_more, ("abc", "dd", 0), (0, "d", 0))
        self.assert_told(best_more, ("abc", "dad", 0), (0, "d", 2))


class RefusalTest(AskingTest):
    def test_no_wheel_goes_first(self):
        for text in NO_WHEELS + NO_TEXTS:
            for word, slack in (("a", 0), ("A", 0), ("A", 10), ("", -1), ("", 0), ("a" * 81, 10), ("xyz", 0)):
                self.assert_refused(NoWheel, best_more, text, word, slack)
        for mark in NO_SIGNS + FOREIGN:
            for text in spoilt(mark):
                self.assert_refused(NoWheel, best_more, text, "a", 0)

    def test_then_no_word(self):
        for text in NO_WORDS + NO_TEXTS:
            for wheel in ("ab", "a" * 13):
                for slack in (0, 10, -1):
                    self.assert_refused(NoWord, best_more, wheel, text, slack)
        for mark in NO_SIGNS + FOREIGN:
            for text in spoilt(mark):
                self.assert_refused(NoWord, best_more, "ab", text, 0)

    def test_then_no_slack(self):
        for slack in NO_SLACKS:
            for wheel in ("ab", "a" * 13):
                for word in ("a", "", "a" * 21, "xyz", "xyz" * 7):
                    self.assert_refused(NoSlack, best_more, wheel, word, slack)

    def test_then_too_many(self):
        for wheel, word in (("a" * 13, "xyz"), ("a" * 13, ""), ("ab", "xyz" * 7), ("a" * 30, "xyz" * 7)):
            self.assert_refused(TooMany, best_more, wheel, word, 0)


if __name__ == "__main__":
    unittest.main()
