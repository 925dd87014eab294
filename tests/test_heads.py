"""Promise 29: several heads on one wheel, the least plan by heads, the near plan."""

import itertools
import unittest

from samples import AskingTest, FOREIGN, NO_LISTS, NO_SIGNS, NO_TEXTS, NO_WHEELS, NO_WORDS
from samples import by_beginnings, joint_price, plans_from, scrambled, spoilt
from strikewheel.bank import joint_cost, joint_many, joint_plan
from strikewheel.errors import Lacks, NoPlace, NoWheel, NoWord
from strikewheel.heads import heads_cost, heads_many, heads_plan, near_plan
from strikewheel.least import cost_from, least_plan, many_least

ALPHABET = "abcdefghijklmnopqrstuvwxyz"
HUGE = 10 ** 39

WHEELS = ["a", "ab", "aa", "abc", "aab", "abcd", "abac", "aabb"]

# For a wheel of seven places.
NO_HEADS = [
    [], [0] * 4, [0] * 200, [7], [-1], [0, 7], [7, 0], [-1, 0], [0, 0, 7], [0, -1, 0], [8], [99], [HUGE], [-HUGE],
    [0, HUGE], [6, 6, 6, 6], [-7], [14],
]


def near_by_rule(wheel, heads, word):
    """The near plan, each sign by all tuples of a head and a turn that strike it."""
    places = list(heads)
    plan = []
    for sign in word:
        fitting = []
        for number, place in enumerate(places):
            for turn in range(1 - len(wheel), len(wheel)):
                if wheel[(place + turn) % len(wheel)] == sign:
                    fitting.append((number, turn))
        size = min(abs(turn) for number, turn in fitting)
        number, turn = min(one for one in fitting if abs(one[1]) == size)
        places[number] = (places[number] + turn) % len(wheel)
        plan.append((number, turn))
    return plan


def struck_by(wheel, heads, plan):
    """What a plan by heads strikes."""
    places = list(heads)
    signs = ""
    for number, turn in plan:
        places[number] = (places[number] + turn) % len(wheel)
        signs += wheel[places[number]]
    return signs


def all_heads(count, most):
    """All heads of a wheel of so many places, at most so many of them."""
    return [list(heads) for many in range(1, most + 1) for heads in itertools.product(range(count), repeat=many)]


def words_up_to(wheel, most):
    """All words of a wheel's signs, of at most so many."""
    signs = sorted(set(wheel))
    return ["".join(word) for count in range(most + 1) for word in itertools.product(signs, repeat=count)]


class HeadsTest(AskingTest):
    def assert_heads(self, wheel, heads, word, least, plan, many):
        self.assert_told(heads_cost, (wheel, heads, word), least)
        self.assert_told(heads_plan, (wheel, heads, word), plan)
        self.assert_told(heads_many, (wheel, heads, word), many)


class LeastTest(HeadsTest):
    def test_by_hand(self):
        self.assert_heads("abcd", [0], "c", 2, [(0, -2)], 2)
        self.assert_heads("abcd", [0, 2], "c", 0, [(1, 0)], 1)
        self.assert_heads("abcd", [0, 2], "acac", 0, [(0, 0), (1, 0), (0, 0), (1, 0)], 1)
        self.assert_heads("abcdef", [1, 4], "ad", 2, [(0, -1), (1, -1)], 1)
        self.assert_heads("abcdef", [0, 3, 5], "bef", 2, [(0, 1), (1, 1), (2, 0)], 1)

    def test_each_head_begins_at_its_place(self):
        for place, sign in enumerate("abcdefg"):
            self.assert_heads("abcdefg", [place], sign, 0, [(0, 0)], 1)
            self.assert_heads("abcdefg", [(place + 3) % 7, place], sign, 0, [(1, 0)], 1)

    def test_heads_at_the_same_place(self):
        self.assert_heads("abc", [1, 1], "b", 0, [(0, 0)], 2)
        self.assert_heads("abc", [1, 1, 1], "b", 0, [(0, 0)], 3)
        self.assert_heads("abc", [1, 1], "cb", 1, [(0, 1), (1, 0)], 2)
        self.assert_heads("abc", [1, 1, 1], "bbb", 0, [(0, 0)] * 3, 27)
        self.assert_heads("q", [0, 0, 0], "qqqq", 0, [(0, 0)] * 4, 81)

    def test_the_first_of_several(self):
        self.assert_heads("ab", [0, 0], "b", 1, [(0, -1)], 4)
        self.assert_heads("abcd", [0, 0], "c", 2, [(0, -2)], 4)
        self.assert_heads("abcd", [2, 0], "b", 1, [(0, -1)], 2)
        self.assert_heads("abcd", [0, 2], "b", 1, [(0, 1)], 2)

    def test_the_word_without_signs(self):
        for wheel in WHEELS:
            for heads in all_heads(len(wheel), 3):
                self.assert_heads(wheel, heads, "", 0, [], 1)
                self.assert_told(near_plan, (wheel, heads, ""), [])

    def test_against_all_plans_by_heads(self):
        for wheel in WHEELS:
            for heads in all_heads(len(wheel), 3):
                bank = [wheel] * len(heads)
                turns = (2 * len(wheel) - 1) * len(heads)
                for word in words_up_to(wheel, 3 if turns < 12 else 2):
                    plans = plans_from(bank, heads, word)
                    least = min(joint_price(plan) for plan in plans)
                    cheap = [plan for plan in plans if joint_price(plan) == least]
                    told = (wheel, heads, word)
                    self.assertEqual(heads_cost(*told), least, told)
                    self.assertEqual(heads_plan(*told), min(cheap), told)
                    self.assertEqual(heads_many(*told), len(cheap), told)

    def test_some_longer_words(self):
        for wheel, heads, word in (
            ("abcd", [3, 1], "acdb"), ("ab", [1, 1], "abbab"), ("abc", [2, 0, 1], "cbac"), ("abcdef", [4], "fbead"),
            ("aabc", [2, 2], "cabc"),
        ):
            plans = plans_from([wheel] * len(heads), heads, word)
            least = min(joint_price(plan) for plan in plans)
            cheap = [plan for plan in plans if joint_price(plan) == least]
            self.assert_heads(wheel, heads, word, least, min(cheap), len(cheap))

    def test_all_heads_at_place_0_as_a_bank(self):
        for wheel, many in (("abcab", 3), ("strike", 3), ("abcdefgh", 2), (ALPHABET, 1)):
            for word in scrambled(sorted(set(wheel)), 3, 15, many):
                told = (wheel, [0] * many, word)
                self.assertEqual(heads_cost(*told), joint_cost([wheel] * many, word))
                self.assertEqual(heads_plan(*told), joint_plan([wheel] * many, word))
                self.assertEqual(heads_many(*told), joint_many([wheel] * many, word))

    def test_one_head_as_without_slack(self):
        for wheel in ("a", "ab", "abcab", "strikewheel", ALPHABET + "abcd", "ab" * 15):
            for word in ["", wheel[::-1]] + scrambled(sorted(set(wheel)), 2, 40, len(wheel)):
                for place in sorted({0, 1 % len(wheel), len(wheel) // 2, len(wheel) - 1}):
                    self.assertEqual(heads_cost(wheel, [place], word), cost_from(wheel, word, 0, place))
                    ahead = wheel[place:] + wheel[:place]
                    self.assertEqual(heads_plan(wheel, [place], word), [(0, t) for t in least_plan(ahead, word, 0)])
                    self.assertEqual(heads_many(wheel, [place], word), many_least(ahead, word, 0))

    def test_a_head_more_never_costs_more(self):
        for wheel in ("abc", "aabbc", "strike"):
            for word in scrambled(sorted(set(wheel)), 2, 7, 6):
                for place in range(len(wheel)):
                    one = heads_cost(wheel, [place], word)
                    for more in range(len(wheel)):
                        two = heads_cost(wheel, [place, more], word)
                        self.assertLessEqual(two, one)
                        self.assertEqual(two, heads_cost(wheel, [more, place], word))
                        self.assertLessEqual(heads_cost(wheel, [place, more, 0], word), two)
                        self.assertLessEqual(heads_cost(wheel, [1, place, more], word), two)

    def test_four_hundred_stands(self):
        for wheel, heads in (
            (ALPHABET[:20], [0, 10]), ("etaoinshrdlucmfwypvb", [19, 19]), ("ab" * 10, [3, 4]), ("strikew", [6, 0, 3]),
            ("abcdefg", [1, 1, 1]), (ALPHABET + "abcd", [29]), ("a" * 20, [5, 6]),
        ):
            for word in scrambled(sorted(set(wheel)), 2, 8, 5):
                least, plan, many = by_beginnings([wheel] * len(heads), heads, word)
                self.assert_heads(wheel, heads, word, least, plan, many)

    def test_words_of_eighty_signs(self):
        for wheel, heads in (("abc", [2, 1]), ("abcab", [0, 4, 2]), ("aab", [1, 1, 0]), ("abcdef", [3, 0]), ("q", [0])):
            word = scrambled(sorted(set(wheel)), 1, 80, 7)[0]
            least, plan, many = by_beginnings([wheel] * len(heads), heads, word)
            self.assert_heads(wheel, heads, word, least, plan, many)
        wheel = ALPHABET[:20]
        word = scrambled(wheel, 1, 80, 8)[0]
        plan = heads_plan(wheel, [3, 17], word)
        self.assertEqual(struck_by(wheel, [3, 17], plan), word)
        self.assertEqual(joint_price(plan), heads_cost(wheel, [3, 17], word))


class NearTest(HeadsTest):
    def test_by_hand(self):
        self.assert_told(near_plan, ("abcd", [0], "c"), [(0, -2)])
        self.assert_told(near_plan, ("abcd", [0, 2], "b"), [(0, 1)])
        self.assert_told(near_plan, ("abcd", [2, 0], "b"), [(0, -1)])
        self.assert_told(near_plan, ("abcd", [0, 0], "d"), [(0, -1)])
        self.assert_told(near_plan, ("abcdef", [0, 3], "bcd"), [(0, 1), (0, 1), (1, 0)])
        self.assert_told(near_plan, ("abcdef", [0, 5], "dd"), [(1, -2), (1, 0)])
        self.assert_told(near_plan, ("q", [0, 0, 0], "qq"), [(0, 0), (0, 0)])

    def test_it_may_cost_more_than_the_least(self):
        plan = near_plan("abcab", [0], "bc")
        self.assertEqual(plan, [(0, -1), (0, -2)])
        self.assertEqual(heads_cost("abcab", [0], "bc"), 2)

    def test_sign_by_sign(self):
        for wheel in WHEELS:
            for heads in all_heads(len(wheel), 3):
                for word in words_up_to(wheel, 3):
                    told = (wheel, heads, word)
                    self.assertEqual(near_plan(*told), near_by_rule(*told), told)

    def test_greater_wheels(self):
        for wheel, heads in (
            (ALPHABET[:20], [0, 10]), ("etaoinshrdlucmfwypvb", [19, 19]), ("ab" * 10, [3, 4]), ("strikew", [6, 0, 3]),
            ("abcdefg", [1, 1, 1]), (ALPHABET + "abcd", [29]), ("aabbab", [5, 2, 2]), ("strikewheel", [10]),
        ):
            for length in (1, 9, 80):
                for word in scrambled(sorted(set(wheel)), 2, length, 5):
                    self.assert_told(near_plan, (wheel, heads, word), near_by_rule(wheel, heads, word))

    def test_it_strikes_the_word_and_costs_no_less(self):
        for wheel, heads in (("abcab", [0, 4]), ("strikew", [6, 0, 3]), (ALPHABET[:20], [0, 10]), ("aabbc", [2])):
            for word in scrambled(sorted(set(wheel)), 3, 20, 9):
                plan = near_plan(wheel, heads, word)
                self.assertEqual(struck_by(wheel, heads, plan), word)
                self.assertGreaterEqual(joint_price(plan), heads_cost(wheel, heads, word))
                self.assertEqual(struck_by(wheel, heads, heads_plan(wheel, heads, word)), word)


class RefusalTest(HeadsTest):
    def assert_all(self, refusal, wheel, heads, word):
        for deed in (heads_cost, heads_plan, heads_many, near_plan):
            self.assert_refused(refusal, deed, wheel, heads, word)

    def test_no_wheel_goes_first(self):
        for text in NO_WHEELS + NO_TEXTS:
            for heads, word in (([0], "a"), ([], "a"), ([0], "A"), ([-1], "A"), ([0] * 4, ""), ([0], "z")):
                self.assert_all(NoWheel, text, heads, word)
        for mark in NO_SIGNS + FOREIGN:
            for text in spoilt(mark):
                self.assert_all(NoWheel, text, [0], "a")

    def test_then_no_place(self):
        for heads in NO_HEADS:
            for word in ("", "a", "z", "A", "a" * 81):
                self.assert_all(NoPlace, "abcdefg", heads, word)

    def test_one_past_the_last_place(self):
        for wheel in ("a", "ab", "strike", ALPHABET + "abcd"):
            self.assertEqual(heads_cost(wheel, [len(wheel) - 1], ""), 0)
            self.assert_all(NoPlace, wheel, [len(wheel)], "")
            self.assert_all(NoPlace, wheel, [-1], "")

    def test_more_than_four_hundred_stands(self):
        for count, many, fits in (
            (30, 1, True), (20, 2, True), (21, 2, False), (30, 2, False), (7, 3, True), (8, 3, False), (20, 3, False),
            (30, 3, False), (1, 3, True), (1, 4, False), (2, 4, False),
        ):
            wheel = "z" * count
            if fits:
                self.assertEqual(heads_cost(wheel, [count - 1] * many, "z"), 0)
                self.assertEqual(near_plan(wheel, [count - 1] * many, "z"), [(0, 0)])
            else:
                for word in ("z", "", "a", "A"):
                    self.assert_all(NoPlace, wheel, [0] * many, word)

    def test_what_is_no_list_or_no_whole_number(self):
        for heads in NO_LISTS + [[True], [False], [None], ["a"], [0, True], [[0]], [(0,)]]:
            self.assert_all(NoPlace, "abc", heads, "a")

    def test_then_no_word(self):
        for text in NO_WORDS + NO_TEXTS:
            for heads in ([0], [2, 2], [1, 0, 2]):
                self.assert_all(NoWord, "abc", heads, text)
        for text in ("zZ", "z" * 81, "-z"):
            self.assert_all(NoWord, "abc", [0], text)

    def test_lacks_goes_last(self):
        for word in ("d", "abd", "dab", "adb", "abc" * 26 + "z"):
            for heads in ([0], [2, 2], [1, 0, 2]):
                self.assert_all(Lacks, "abc", heads, word)

    def test_what_is_refused_changes_no_later_answer(self):
        before = heads_plan("abc", [1, 2], "abca")
        self.assert_all(Lacks, "abc", [1, 2], "abcd")
        self.assert_all(NoPlace, "abc", [1, 3], "abca")
        self.assertEqual(heads_plan("abc", [1, 2], "abca"), before)


if __name__ == "__main__":
    unittest.main()
