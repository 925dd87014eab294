"""Promise 20: banks and joint plans."""

import itertools
import unittest

from samples import AskingTest, FOREIGN, NO_LISTS, NO_SIGNS, NO_WHEELS, NO_WORDS
from samples import by_beginnings, joint_price, plans_from, scrambled, spoilt
from strikewheel.bank import is_bank, joint_cost, joint_many, joint_plan
from strikewheel.errors import Lacks, NoBank, NoWord
from strikewheel.least import least_cost, least_plan, many_least

ALPHABET = "abcdefghijklmnopqrstuvwxyz"

BANKS = [
    ["a"], ["ab"], ["abc"], ["abcab"], ["aab", "ab"], ["ab", "ba"], ["abc", "c"], ["abcd", "dcba"], ["ab", "ab", "ab"],
    ["a", "b", "c"], ["a", "ab", "abc"], ["aaa", "aaa"], ["abc", "cba", "bac"], ["abcd", "ab", "cd"], ["aabb", "bbaa"],
    ["abcde", "edc"], ["abcdef"], ["abac", "cb"],
]

NO_BANKS = [
    [], ["a"] * 4, ["ab"] * 5, ["a"] * 200, ["z" * 20, "z" * 21], ["z" * 30, "z" * 14], ["z" * 8] * 3,
    ["z" * 30] * 2, ["z" * 30] * 3, [""], ["", "ab"], ["ab", ""], ["ab", "ab", ""], ["ab", "a" * 31], ["a" * 31],
    ["A"], ["ab", "a b"], ["a-"], ["ab", "1"],
]


def joint_plans(bank, word):
    """All joint plans of a bank for a word, gone through one by one, rising."""
    return plans_from(bank, [0] * len(bank), word)


def words_for(bank, most):
    """All words of at most so many signs that a bank has, while their plans are not too many."""
    signs = sorted(set("".join(bank)))
    turns = sum(2 * len(wheel) - 1 for wheel in bank)
    while most > 1 and turns ** most > 12000:
        most -= 1
    return ["".join(word) for count in range(most + 1) for word in itertools.product(signs, repeat=count)]


class IsBankTest(AskingTest):
    def test_counts_of_wheels(self):
        self.assert_told(is_bank, ([],), False)
        for count in (1, 2, 3):
            self.assert_told(is_bank, (["a"] * count,), True)
            self.assert_told(is_bank, (["abc"] * count,), True)
        for count in (4, 5, 200):
            self.assert_told(is_bank, (["a"] * count,), False)

    def test_counts_of_places(self):
        for counts, expected in (
            ((1,), True), ((30,), True), ((31,), False), ((20, 20), True), ((20, 21), False), ((21, 20), False),
            ((30, 13), True), ((30, 14), False), ((14, 30), False), ((25, 16), True), ((5, 8, 10), True),
            ((10, 10, 4), True), ((10, 10, 5), False), ((7, 7, 8), True), ((8, 8, 7), False), ((1, 20, 20), True),
            ((30, 13, 1), True), ((30, 13, 2), False), ((1, 1, 30), True), ((1, 1, 31), False), ((1, 401), False),
            ((30, 30), False), ((30, 30, 30), False), ((0, 5), False), ((0,), False), ((3, 0, 5), False),
        ):
            self.assert_told(is_bank, (["q" * count for count in counts],), expected)

    def test_texts_that_are_no_wheels(self):
        for text in NO_WHEELS:
            for bank in ([text], [text, "ab"], ["ab", text], ["a", "b", text], ["a", text, "b"]):
                self.assert_told(is_bank, (bank,), False)
        for mark in NO_SIGNS + FOREIGN:
            for text in spoilt(mark):
                self.assertIs(is_bank(["ab", text]), False)

    def test_banks(self):
        for bank in BANKS:
            self.assert_told(is_bank, (bank,), True)
        for bank in NO_BANKS + NO_LISTS:
            self.assert_told(is_bank, (bank,), False)


class JointTest(AskingTest):
    def assert_joint(self, bank, word, least, plan, many):
        self.assert_told(joint_cost, (bank, word), least)
        self.assert_told(joint_plan, (bank, word), plan)
        self.assert_told(joint_many, (bank, word), many)

    def test_by_hand(self):
        self.assert_joint(["abc"], "c", 1, [(0, -1)], 1)
        self.assert_joint(["abcd"], "c", 2, [(0, -2)], 2)
        self.assert_joint(["abc", "cab"], "c", 0, [(1, 0)], 1)
        self.assert_joint(["abc", "cab"], "cac", 0, [(1, 0), (0, 0), (1, 0)], 1)
        self.assert_joint(["a", "b", "c"], "cab", 0, [(2, 0), (0, 0), (1, 0)], 1)
        self.assert_joint(["abcd", "ab"], "bd", 2, [(1, -1), (0, -1)], 2)

    def test_the_other_heads_stay(self):
        self.assert_joint(["abc", "abc"], "bab", 1, [(0, 1), (1, 0), (0, 0)], 2)
        self.assert_joint(["abcdef", "fedcba"], "cdcd", 4, [(0, 2), (1, 2), (0, 0), (1, 0)], 1)

    def test_the_first_of_several(self):
        self.assert_joint(["ab", "ab"], "a", 0, [(0, 0)], 2)
        self.assert_joint(["ab", "ab"], "b", 1, [(0, -1)], 4)
        self.assert_joint(["ba", "ab", "ba"], "b", 0, [(0, 0)], 2)
        self.assert_joint(["a", "a", "a"], "aaaa", 0, [(0, 0)] * 4, 81)
        self.assert_joint(["abcd", "aacd"], "c", 2, [(0, -2)], 4)

    def test_a_wheel_that_has_not_all_signs(self):
        self.assert_joint(["a", "bc"], "acb", 2, [(0, 0), (1, -1), (1, -1)], 4)
        self.assert_joint(["bc", "a"], "acb", 2, [(1, 0), (0, -1), (0, -1)], 4)

    def test_the_word_without_signs(self):
        for bank in BANKS:
            self.assert_joint(bank, "", 0, [], 1)

    def test_against_all_joint_plans(self):
        for bank in BANKS:
            for word in words_for(bank, 4):
                plans = joint_plans(bank, word)
                least = min(joint_price(plan) for plan in plans)
                cheap = [plan for plan in plans if joint_price(plan) == least]
                told = (bank, word)
                self.assertEqual(joint_cost(*told), least, told)
                self.assertEqual(joint_plan(*told), min(cheap), told)
                self.assertEqual(joint_many(*told), len(cheap), told)
                self.assertEqual(by_beginnings(bank, [0] * len(bank), word), (least, min(cheap), len(cheap)), told)

    def test_some_longer_words(self):
        for bank, word in (
            (["abcd", "dcba"], "acdb"), (["ab", "ba"], "abbabab"), (["abc", "c"], "cbaccab"), (["abcdef"], "fbeadc"),
            (["a", "ab", "abc"], "cabcb"),
        ):
            plans = joint_plans(bank, word)
            least = min(joint_price(plan) for plan in plans)
            cheap = [plan for plan in plans if joint_price(plan) == least]
            self.assert_joint(bank, word, least, min(cheap), len(cheap))

    def test_one_wheel_alone_as_without_slack(self):
        for wheel in ("a", "ab", "abcab", "strikewheel", ALPHABET + "abcd", "ab" * 15):
            for word in ["", wheel[::-1]] + scrambled(sorted(set(wheel)), 2, 80, len(wheel)):
                plan = [(0, turn) for turn in least_plan(wheel, word, 0)]
                self.assert_joint([wheel], word, least_cost(wheel, word, 0), plan, many_least(wheel, word, 0))

    def test_no_more_than_one_of_the_wheels(self):
        for bank in BANKS + [["strikewheel", "wheelstrike", "kit"], [ALPHABET, "etaoinshrdlu"]]:
            for wheel in bank:
                for word in scrambled(sorted(set(wheel)), 4, 12, len(wheel)):
                    self.assertLessEqual(joint_cost(bank, word), least_cost(wheel, word, 0), (bank, word))

    def test_four_hundred_stands(self):
        for bank in (
            [ALPHABET[:20], ALPHABET[19::-1]], ["etaoinshrdlucmfwypvb", "thequickbrownfoxjump"],
            ["ab" * 10, "abc" * 6 + "ab"], ["abcdefgh", "aeiou", "tnshrdlcum"], [ALPHABET + "abcd", "etaoinshrdluy"],
        ):
            for word in scrambled(sorted(set("".join(bank))), 2, 9, 5):
                least, plan, many = by_beginnings(bank, [0] * len(bank), word)
                self.assert_joint(bank, word, least, plan, many)

    def test_words_of_eighty_signs(self):
        for bank in (["abc", "cab"], ["ab", "bc", "ca"], ["abcdef", "fab"], ["aaaab", "bbb"], ["abcde"], ["a", "b"]):
            for word in scrambled(sorted(set("".join(bank))), 2, 80, 7):
                least, plan, many = by_beginnings(bank, [0] * len(bank), word)
                self.assert_joint(bank, word, least, plan, many)

    def test_four_hundred_stands_and_eighty_signs(self):
        bank = [ALPHABET[:20], ALPHABET[19::-1]]
        word = scrambled(ALPHABET[:20], 1, 80, 9)[0]
        plan = joint_plan(bank, word)
        self.assertEqual(joint_price(plan), joint_cost(bank, word))
        places = [0, 0]
        for (number, turn), sign in zip(plan, word, strict=True):
            places[number] = (places[number] + turn) % 20
            self.assertEqual(bank[number][places[number]], sign)
        self.assertEqual(joint_cost(["z" * 20, "z" * 20], "z" * 80), 0)
        self.assertEqual(joint_many(["z" * 20, "z" * 20], "z" * 80), 2 ** 80)


class RefusalTest(AskingTest):
    ALL = (joint_cost, joint_plan, joint_many)

    def assert_all(self, refusal, bank, word):
        for deed in self.ALL:
            self.assert_refused(refusal, deed, bank, word)

    def test_no_bank_goes_first(self):
        for bank in NO_BANKS + NO_LISTS:
            for word in ("", "a", "A", "q", "a" * 81):
                self.assert_all(NoBank, bank, word)

    def test_no_word_goes_next(self):
        for word in NO_WORDS:
            for bank in (["ab"], ["b", "c"], ["z" * 20, "z" * 20]):
                self.assert_all(NoWord, bank, word)

    def test_lacks_goes_last(self):
        for word in ("d", "abd", "dab", "adb", "abc" * 26 + "z"):
            for bank in (["abc"], ["ab", "c"], ["a", "b", "c"]):
                self.assert_all(Lacks, bank, word)
        self.assert_told(joint_cost, (["a", "b", "c"], "abc"), 0)

    def test_what_is_no_text_is_no_word(self):
        for thing in (None, 1, True, ["a"], ("a",), []):
            self.assert_all(NoWord, ["ab"], thing)

    def test_what_is_refused_changes_no_later_answer(self):
        before = joint_plan(["ab", "ba"], "abba")
        self.assert_all(Lacks, ["ab", "ba"], "abc")
        self.assertEqual(joint_plan(["ab", "ba"], "abba"), before)


if __name__ == "__main__":
    unittest.main()
