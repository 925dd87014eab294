"""Promises 10 to 12: tables, least costs, least plans, how many, starts."""

import itertools
import unittest

from samples import (
    AskingTest, FOREIGN, NO_SIGNS, NO_SLACKS, NO_TEXTS, NO_WHEELS, NO_WORDS, all_plans, price, spoilt,
)
from strikewheel.errors import Lacks, NoPlace, NoSlack, NoWheel, NoWord
from strikewheel.least import best_start, cost_from, least_cost, least_plan, many_least, table
from strikewheel.plans import cost, is_plan
from strikewheel.wheels import in_glass, turned

ALPHABET = "abcdefghijklmnopqrstuvwxyz"
SLACKS = (0, 1, 2, 9)

ALL = (table, least_cost, least_plan, many_least, best_start)


def from_nought(wheel, word, slack):
    """cost_from with the four arguments that it has and the others lack."""
    return cost_from(wheel, word, slack, 0)


def words_of(wheel, most):
    """All words of at most so many signs that a wheel has."""
    signs = sorted(set(wheel))
    return ["".join(word) for count in range(most + 1) for word in itertools.product(signs, repeat=count)]


def small_tasks():
    """Wheels and words for which all plans are few enough to be gone through."""
    for count in range(1, 4):
        for signs in itertools.product("abc"[:count], repeat=count):
            for word in words_of(signs, 4):
                yield "".join(signs), word
    for wheel in ("abcd", "aabb", "abab", "abac", "aaab", "bacd", "dcba", "caab"):
        for word in words_of(wheel, 3):
            yield wheel, word
    for wheel, word in (
        ("aaaa", "aaaa"), ("abcde", "cecae"), ("abcba", "bacb"), ("edcba", "acebd"), ("abcabc", "cbac"),
        ("abcdefg", "gdafc"), ("aabaab", "babb"), ("abcdefghij", "fafa"), ("abcdef", "dddadd"),
    ):
        yield wheel, word


def stand_of(wheel, plan):
    """The stand to which a plan leads."""
    moved = [turn for turn in plan if turn != 0]
    way = 0 if not moved else 1 if moved[-1] > 0 else -1
    return (sum(plan) % len(wheel), way)


def table_by_plans(wheel, word, slack):
    """The table, by going through all plans of all beginnings."""
    rows = []
    for count in range(len(word) + 1):
        found = {}
        for plan in all_plans(wheel, word[:count]):
            found.setdefault(stand_of(wheel, plan), []).append(price(plan, slack))
        rows.append(sorted((place, way, min(costs)) for (place, way), costs in found.items()))
    return rows


def by_beginnings(wheel, word, slack):
    """For each stand behind the word: least cost, first such plan, how many there are.

    It goes from the beginning to the end, for tasks with too many plans to go through.
    """
    row = {(0, 0): (0, (), 1)}
    for sign in word:
        after = {}
        for (place, way), (spent, plan, many) in row.items():
            for turn in range(1 - len(wheel), len(wheel)):
                there = (place + turn) % len(wheel)
                if wheel[there] != sign:
                    continue
                way_then = way if turn == 0 else 1 if turn > 0 else -1
                total = spent + abs(turn) + (slack if way * way_then == -1 else 0)
                best, first, count = after.get((there, way_then), (total + 1, None, 0))
                if total < best:
                    after[(there, way_then)] = (total, plan + (turn,), many)
                elif total == best:
                    after[(there, way_then)] = (total, min(first, plan + (turn,)), count + many)
        row = after
    return row


def whole_of(row):
    """The least cost, the first plan of that cost and how many, over all stands of a row."""
    least = min(found[0] for found in row.values())
    ends = [found for found in row.values() if found[0] == least]
    return least, list(min(plan for cost, plan, many in ends)), sum(many for cost, plan, many in ends)


# The longest words on the greatest wheels, with signs that stand once, twice, often.
LARGE = [
    (ALPHABET + "abcd", ("thequickbrownfoxjumpsoverthelazydog" * 3)[:80]),
    (ALPHABET + "abcd", "adadbcbdca" * 8),
    ("etaoinshrdluetaoinshrdluetaoin", ("theirnoisedrainedthelandsoutnearhere" * 3)[:80]),
    ("ab" * 15, ("abbabaab" * 10)),
    ("a" * 29 + "b", ("aabab" * 16)),
    ("abcdefghijklmnopqrstuvwxyzzyxw", ("zaybxcwdveuftgshriqjpkolnm" * 4)[:80]),
]


class TableTest(AskingTest):
    def test_by_hand(self):
        self.assert_told(table, ("abc", "cab", 2), [
            [(0, 0, 0)], [(2, -1, 1), (2, 1, 2)], [(0, -1, 3), (0, 1, 3)], [(1, -1, 5), (1, 1, 4)],
        ])
        self.assert_told(table, ("aab", "aa", 5), [
            [(0, 0, 0)],
            [(0, 0, 0), (1, -1, 2), (1, 1, 1)],
            [(0, -1, 3), (0, 0, 0), (0, 1, 3), (1, -1, 2), (1, 1, 1)],
        ])
        # A nought keeps the way, so going back behind it costs the slack.
        self.assert_told(table, ("abcd", "bba", 3), [
            [(0, 0, 0)], [(1, -1, 3), (1, 1, 1)], [(1, -1, 3), (1, 1, 1)], [(0, -1, 4), (0, 1, 4)],
        ])

    def test_the_word_without_signs(self):
        for wheel in ("a", "abc", "z" * 30):
            for slack in range(10):
                self.assert_told(table, (wheel, "", slack), [[(0, 0, 0)]])

    def test_a_wheel_of_one_place(self):
        for count in (1, 2, 80):
            self.assert_told(table, ("q", "q" * count, 9), [[(0, 0, 0)]] * (count + 1))

    def test_against_all_plans(self):
        for wheel, word in small_tasks():
            for slack in (0, 2, 9):
                self.assertEqual(table(wheel, word, slack), table_by_plans(wheel, word, slack), (wheel, word, slack))

    def test_the_shape(self):
        for wheel, word in LARGE + [("abcab", "bacab"), ("aaa", "aaaa")]:
            rows = table(wheel, word, 4)
            self.assertIs(type(rows), list)
            self.assertEqual(len(rows), len(word) + 1)
            for row in rows:
                self.assertIs(type(row), list)
                self.assertEqual(row, sorted(row))
                self.assertEqual(len({entry[:2] for entry in row}), len(row))
                for entry in row:
                    self.assertIs(type(entry), tuple)
                    self.assertEqual([type(part) for part in entry], [int, int, int])

    def test_the_greatest_wheels_and_longest_words(self):
        for wheel, word in LARGE:
            for slack in (0, 3, 9):
                with self.subTest(wheel=wheel, word=word, slack=slack):
                    rows = table(wheel, word, slack)
                    for count in (1, 2, 41, 80):
                        row = by_beginnings(wheel, word[:count], slack)
                        expected = sorted((place, way, row[(place, way)][0]) for place, way in row)
                        self.assertEqual(rows[count], expected)

    def test_every_row_is_the_askers_own(self):
        self.assert_told(table, ("q", "qq", 1), [[(0, 0, 0)], [(0, 0, 0)], [(0, 0, 0)]])
        wheel, word = LARGE[0]
        self.assert_told(table, (wheel, word, 5), table(wheel, word, 5))


class LeastTest(AskingTest):
    def assert_least(self, wheel, word, slack, least, plan, many):
        self.assert_told(least_cost, (wheel, word, slack), least)
        self.assert_told(least_plan, (wheel, word, slack), plan)
        self.assert_told(many_least, (wheel, word, slack), many)

    def test_by_hand(self):
        self.assert_least("abc", "", 9, 0, [], 1)
        self.assert_least("a", "aaa", 9, 0, [0, 0, 0], 1)
        self.assert_least("abc", "a", 9, 0, [0], 1)
        self.assert_least("abc", "c", 9, 1, [-1], 1)
        self.assert_least("abc", "cab", 0, 3, [-1, 1, 1], 1)
        self.assert_least("abc", "cab", 1, 4, [-1, 1, 1], 2)
        self.assert_least("abc", "cab", 2, 4, [2, 1, 1], 1)

    def test_the_first_of_several(self):
        self.assert_least("ab", "b", 0, 1, [-1], 2)
        self.assert_least("abcd", "c", 3, 2, [-2], 2)
        self.assert_least("ab", "ba", 0, 2, [-1, -1], 4)
        self.assert_least("ab", "ba", 1, 2, [-1, -1], 2)
        self.assert_least("abab", "b", 5, 1, [-1], 2)
        # Forth at first, though back comes first by itself.
        self.assert_least("abcd", "cd", 0, 3, [-2, 1], 2)
        self.assert_least("abcd", "cd", 1, 3, [2, 1], 1)

    def test_many_plans(self):
        # Each of the eighty turns may go either way, as no change costs anything.
        self.assertEqual(many_least("ab", "ba" * 40, 0), 2 ** 80)
        self.assertEqual(many_least("ab", "ba" * 40, 1), 2)
        self.assertEqual(least_cost("ab", "ba" * 40, 9), 80)
        self.assertEqual(least_plan("ab", "ba" * 40, 9), [-1] * 80)
        self.assertEqual(many_least("z" * 30, "z" * 80, 0), 1)
        self.assertEqual(least_plan("z" * 30, "z" * 80, 0), [0] * 80)

    def test_against_all_plans(self):
        for wheel, word in small_tasks():
            plans = all_plans(wheel, word)
            for slack in SLACKS:
                least = min(price(plan, slack) for plan in plans)
                cheap = [plan for plan in plans if price(plan, slack) == least]
                told = (wheel, word, slack)
                self.assertEqual(least_cost(*told), least, told)
                self.assertEqual(least_plan(*told), min(cheap), told)
                self.assertEqual(many_least(*told), len(cheap), told)

    def test_all_slacks(self):
        for wheel, word in (("abcde", "cbdae"), ("abcab", "bccab"), ("abcdef", "fbea")):
            plans = all_plans(wheel, word)
            for slack in range(10):
                least = min(price(plan, slack) for plan in plans)
                cheap = [plan for plan in plans if price(plan, slack) == least]
                self.assert_least(wheel, word, slack, least, min(cheap), len(cheap))

    def test_the_greatest_wheels_and_longest_words(self):
        for wheel, word in LARGE:
            for slack in (0, 4):
                least, plan, many = whole_of(by_beginnings(wheel, word, slack))
                self.assert_least(wheel, word, slack, least, plan, many)

    def test_the_other_way_of_going_through_is_right(self):
        for wheel, word in (("abcde", "cecae"), ("abcba", "bacb"), ("aaa", "aaaa")):
            for slack in SLACKS:
                plans = all_plans(wheel, word)
                least = min(price(plan, slack) for plan in plans)
                cheap = [plan for plan in plans if price(plan, slack) == least]
                self.assertEqual(whole_of(by_beginnings(wheel, word, slack)), (least, min(cheap), len(cheap)))

    def test_the_plan_the_cost_and_the_table_agree(self):
        for wheel, word in LARGE:
            for slack in (0, 5):
                with self.subTest(wheel=wheel, word=word, slack=slack):
                    plan = least_plan(wheel, word, slack)
                    self.assertIs(is_plan(wheel, word, plan), True)
                    self.assertEqual(cost(plan, slack), least_cost(wheel, word, slack))
                    last = table(wheel, word, slack)[-1]
                    self.assertEqual(min(entry[2] for entry in last), least_cost(wheel, word, slack))

    def test_a_full_round_changes_nothing(self):
        for wheel, word in LARGE + [("abcde", "cbdae"), ("abcab", "bccab")]:
            for slack in (0, 3):
                for rounds in (len(wheel), -len(wheel), len(wheel) * 10 ** 30):
                    told = (turned(wheel, rounds), word, slack)
                    self.assertEqual(least_plan(*told), least_plan(wheel, word, slack))

    def test_the_glass_changes_no_cost(self):
        for wheel, word in LARGE + [("abcde", "cbdae"), ("abcab", "bccab")]:
            for slack in (0, 3):
                with self.subTest(wheel=wheel, word=word, slack=slack):
                    glass = in_glass(wheel)
                    self.assertEqual(least_cost(glass, word, slack), least_cost(wheel, word, slack))
                    self.assertEqual(many_least(glass, word, slack), many_least(wheel, word, slack))
                    self.assertEqual(
                        [sorted((-place % len(wheel), -way, least) for place, way, least in row)
                         for row in table(glass, word, slack)],
                        table(wheel, word, slack),
                    )


class StartTest(AskingTest):
    def test_by_hand(self):
        for place, expected in ((0, 4), (1, 3), (2, 2)):
            self.assert_told(cost_from, ("abc", "cab", 2, place), expected)
        self.assert_told(best_start, ("abc", "cab", 2), (2, 2))
        self.assert_told(best_start, ("abc", "", 9), (0, 0))
        self.assert_told(best_start, ("a", "aa", 9), (0, 0))

    def test_the_least_place_of_several(self):
        self.assert_told(best_start, ("abab", "b", 0), (1, 0))
        self.assert_told(best_start, ("abab", "ba", 4), (1, 1))
        self.assert_told(best_start, ("bcabca", "ab", 0), (2, 1))
        self.assert_told(best_start, ("cabcab", "ab", 0), (1, 1))
        self.assert_told(best_start, ("z" * 30, "z" * 80, 9), (0, 0))

    def test_against_all_plans_from_every_place(self):
        for wheel, word in small_tasks():
            for slack in (0, 2):
                costs = []
                for place in range(len(wheel)):
                    costs.append(min(price(plan, slack) for plan in all_plans(wheel, word, place)))
                    self.assertEqual(cost_from(wheel, word, slack, place), costs[-1], (wheel, word, slack, place))
                expected = (costs.index(min(costs)), min(costs))
                self.assertEqual(best_start(wheel, word, slack), expected, (wheel, word, slack))

    def test_from_every_place_as_the_wheel_turned_so_far(self):
        for wheel, word in LARGE[:3] + [(wheel, word[:10]) for wheel, word in LARGE[3:]]:
            for slack in (0, 9):
                with self.subTest(wheel=wheel, word=word, slack=slack):
                    costs = [least_cost(turned(wheel, place), word, slack) for place in range(len(wheel))]
                    found = [cost_from(wheel, word, slack, place) for place in range(len(wheel))]
                    self.assertEqual(found, costs)
                    self.assertEqual(best_start(wheel, word, slack), (costs.index(min(costs)), min(costs)))

    def test_the_best_start_is_a_pair(self):
        wheel, word = LARGE[0]
        self.assert_told(best_start, (wheel, word, 1), best_start(wheel, word, 1))
        self.assertEqual([type(part) for part in best_start(wheel, word, 1)], [int, int])


class RefusalTest(AskingTest):
    def test_no_wheel_goes_first(self):
        for text in NO_WHEELS:
            for deed in ALL + (from_nought,):
                self.assert_refused(NoWheel, deed, text, "a", 0)
                self.assert_refused(NoWheel, deed, text, "a-", 10)
                self.assert_refused(NoWheel, deed, text, "q", -1)
            self.assert_refused(NoWheel, cost_from, text, "a-", 10, 99)

    def test_no_word_goes_next(self):
        for text in NO_WORDS:
            for deed in ALL + (from_nought,):
                self.assert_refused(NoWord, deed, "ab", text, 0)
                self.assert_refused(NoWord, deed, "b", text, 10)
            self.assert_refused(NoWord, cost_from, "ab", text, -1, 2)

    def test_no_slack_goes_next(self):
        for slack in NO_SLACKS:
            for deed in ALL + (from_nought,):
                self.assert_refused(NoSlack, deed, "ab", "ab", slack)
                self.assert_refused(NoSlack, deed, "ab", "", slack)
                self.assert_refused(NoSlack, deed, "ab", "abc", slack)
            self.assert_refused(NoSlack, cost_from, "ab", "abc", slack, 2)

    def test_lacks_goes_next(self):
        for word in ("c", "abc", "cab", "acb", "ab" * 39 + "z"):
            for deed in ALL + (from_nought,):
                self.assert_refused(Lacks, deed, "ab", word, 0)
            for place in (-1, 2, 10 ** 39):
                self.assert_refused(Lacks, cost_from, "ab", word, 9, place)

    def test_no_place_goes_last(self):
        for wheel in ("a", "ab", "abcab", "a" * 30):
            for place in (-1, len(wheel), len(wheel) + 1, -len(wheel), 10 ** 39, -(10 ** 39)):
                for word in ("", "a"):
                    self.assert_refused(NoPlace, cost_from, wheel, word, 0, place)
            self.assertEqual(cost_from(wheel, "", 0, len(wheel) - 1), 0)

    def test_what_is_no_whole_number(self):
        for thing in NO_TEXTS[6:] + ["", "1"]:
            self.assert_refused(NoSlack, least_cost, "ab", "ab", thing)
            self.assert_refused(NoPlace, cost_from, "ab", "ab", 0, thing)

    def test_every_mark_that_is_no_sign(self):
        for mark in NO_SIGNS + FOREIGN:
            for text in spoilt(mark):
                self.assert_refused(NoWheel, table, text, "", 0)
                self.assert_refused(NoWord, table, "ab", text, 0)

    def test_what_is_refused_changes_no_later_answer(self):
        before = (table("abab", "ba", 1), least_plan("abc", "cab", 1))
        self.assert_refused(Lacks, table, "abab", "bac", 1)
        self.assertEqual((table("abab", "ba", 1), least_plan("abc", "cab", 1)), before)


if __name__ == "__main__":
    unittest.main()
