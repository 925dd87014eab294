"""Promises 14 to 16: books, their signs and pairs, orders, cuts and halves."""

import itertools
import unittest

from samples import (
    AskingTest, FOREIGN, NO_BOOKS, NO_LISTS, NO_SIGNS, cut_of, neighbours, scrambled, spoilt,
)
from strikewheel.books import cut, halves, pairs_of, reach, signs_of, spread
from strikewheel.errors import NoBook, NoOrder
from strikewheel.least import cost_from

ALPHABET = "abcdefghijklmnopqrstuvwxyz"

BOOKS = [
    [], [""], ["", "", ""], ["a"], ["aaa", "a"], ["ab"], ["ba", "ab"], ["abc"], ["cab", "bac"], ["abab", "bbcc"],
    ["strike", "wheel"], ["a", "b", "c"], ["abcabcd", "", "dacb"], ["mississippi"],
    scrambled("abcde", 20, 80, 1), scrambled("abcdef", 4, 12, 2), scrambled(ALPHABET, 20, 80, 3),
    scrambled(ALPHABET, 2, 40, 4),
]


def orders_of(book):
    """All orders of a small book, some of a great one."""
    signs = "".join(sorted(set("".join(book))))
    if len(signs) < 6:
        return ["".join(order) for order in itertools.permutations(signs)]
    return [signs, signs[::-1], signs[3:] + signs[:3], signs[::2] + signs[1::2], signs[1::2] + signs[::2]]


def way(order, sign, other):
    """The lesser number of single steps on from the one to the other, or from the other to the one."""
    steps = []
    for start, end in ((sign, other), (other, sign)):
        place = order.index(start)
        count = 0
        while order[place] != end:
            place = 0 if place == len(order) - 1 else place + 1
            count += 1
        steps.append(count)
    return min(steps)


class SignsTest(AskingTest):
    def test_by_hand(self):
        for book, signs in (
            ([], ""), ([""], ""), (["", "", ""], ""), (["a"], "a"), (["aaa", "a"], "a"), (["ba"], "ab"),
            (["strike", "wheel"], "ehiklrstw"), (["z", "", "a", "m"], "amz"), (["mississippi"], "imps"),
            ([ALPHABET[::-1]], ALPHABET), (["q" * 80] * 20, "q"), (["a" * 80] * 19 + ["a" * 79 + "b"], "ab"),
        ):
            self.assert_told(signs_of, (book,), signs)

    def test_all_books(self):
        for book in BOOKS:
            found = "".join(sign for sign in ALPHABET if any(sign in word for word in book))
            self.assert_told(signs_of, (book,), found)


class PairsTest(AskingTest):
    def test_by_hand(self):
        for book, pairs in (
            ([], []), ([""], []), (["", ""], []), (["a"], []), (["a", "b"], []), (["aa"], []), (["aaaa", "bb"], []),
            (["ab"], [("a", "b", 1)]), (["ba"], [("a", "b", 1)]), (["ab", "ba"], [("a", "b", 2)]),
            (["aba"], [("a", "b", 2)]), (["aabb"], [("a", "b", 1)]), (["abba"], [("a", "b", 2)]),
            (["cab"], [("a", "b", 1), ("a", "c", 1)]), (["bca", "cb"], [("a", "c", 1), ("b", "c", 2)]),
            (["zaz", "ya"], [("a", "y", 1), ("a", "z", 2)]), (["ab" * 40] * 20, [("a", "b", 79 * 20)]),
        ):
            self.assert_told(pairs_of, (book,), pairs)

    def test_words_do_not_touch_one_another(self):
        self.assert_told(pairs_of, (["ab", "cd"],), [("a", "b", 1), ("c", "d", 1)])
        self.assert_told(pairs_of, (["a", "b"] * 10,), [])

    def test_against_all_two_signs(self):
        for book in BOOKS:
            expected = []
            for sign, other in itertools.combinations(ALPHABET, 2):
                if neighbours(book, sign, other):
                    expected.append((sign, other, neighbours(book, sign, other)))
            self.assert_told(pairs_of, (book,), expected)


class OrderTest(AskingTest):
    def test_by_hand(self):
        for book, order, reached, spreading in (
            ([], "", 0, 0), ([""], "", 0, 0), (["a"], "a", 0, 0), (["ab"], "ab", 1, 1), (["ab"], "ba", 1, 1),
            (["aba", "b"], "ab", 2, 2), (["abc"], "abc", 2, 2), (["abc"], "acb", 2, 3), (["ac", "b"], "abc", 1, 2),
            (["ad", "bc"], "abcd", 2, 4), (["ac", "bd"], "abcd", 4, 4), (["adad", "bc"], "abcd", 4, 10),
            (["ae", "bcd"], "abcde", 3, 6), (["ada", "bcbe"], "abcde", 8, 11), (["a", "b"], "ba", 0, 0),
        ):
            self.assert_told(reach, (book, order), reached)
            self.assert_told(spread, (book, order), spreading)

    def test_against_all_two_signs(self):
        for book in BOOKS:
            for order in orders_of(book):
                pairs = list(itertools.combinations(order, 2))
                ways = sum(neighbours(book, sign, other) * way(order, sign, other) for sign, other in pairs)
                apart = sum(
                    neighbours(book, sign, other) * (order.index(other) - order.index(sign)) for sign, other in pairs
                )
                self.assertEqual(reach(book, order), ways, (book, order))
                self.assertEqual(spread(book, order), apart, (book, order))

    def test_the_order_as_a_wheel_costs_the_reach(self):
        for book in BOOKS:
            for order in orders_of(book)[:6]:
                costs = [cost_from(order, word, 0, order.index(word[0])) for word in book if word]
                self.assertEqual(reach(book, order), sum(costs))

    def test_whole_numbers_of_great_books(self):
        book = scrambled(ALPHABET, 20, 80, 3)
        self.assert_told(reach, (book, ALPHABET), reach(book, ALPHABET))
        self.assert_told(spread, (book, ALPHABET[::-1]), spread(book, ALPHABET))


class CutTest(AskingTest):
    def test_by_hand(self):
        book = ["abcab", "cd"]
        for signs, expected in (
            ("", 0), ("a", 3), ("b", 3), ("c", 3), ("d", 1), ("ab", 2), ("ba", 2), ("ac", 4), ("cd", 2), ("abc", 1),
            ("abcd", 0), ("dcba", 0),
        ):
            self.assert_told(cut, (book, signs), expected)

    def test_signs_told_twice_count_once(self):
        book = ["abcab", "cd"]
        for signs, expected in (("aa", 3), ("aba", 2), ("ccdc", 2), ("abcdabcd", 0), ("a" * 4000, 3), ("dd", 1)):
            self.assert_told(cut, (book, signs), expected)

    def test_what_the_book_lacks_does_not_count(self):
        book = ["abcab", "cd"]
        for signs, expected in (
            ("z", 0), ("az", 3), ("zab", 2), ("A", 0), ("aB", 3), ("a b", 2), ("a\nb", 2), (" ", 0), ("-1~", 0),
            ("abcdz", 0), (ALPHABET, 0), ("e" * 81, 0),
        ):
            self.assert_told(cut, (book, signs), expected)
        for signs in ("", "a", "abc", "A-"):
            self.assert_told(cut, ([], signs), 0)
            self.assert_told(cut, ([""], signs), 0)
            self.assert_told(cut, (["a", "b"], signs), 0)

    def test_every_other_mark(self):
        for mark in NO_SIGNS + FOREIGN:
            for text in spoilt(mark)[:3]:
                self.assertEqual(cut(["abcab", "cd"], text), 2)
            self.assertEqual(cut(["abcab", "cd"], mark), 0)

    def test_against_all_two_signs(self):
        for book in BOOKS:
            signs = "".join(sorted(set("".join(book))))[:6]
            for count in range(len(signs) + 1):
                for some in itertools.combinations(signs, count):
                    self.assertEqual(cut(book, "".join(some)), cut_of(book, some), (book, some))

    def test_what_is_left_cuts_as_much(self):
        for book in BOOKS:
            signs = "".join(sorted(set("".join(book))))
            for count in range(len(signs) + 1):
                self.assertEqual(cut(book, signs[:count]), cut(book, signs[count:]))


class HalvesTest(AskingTest):
    def test_by_hand(self):
        for order, expected in (
            ("", []), ("a", [""]), ("ab", ["a", "b"]), ("ba", ["b", "a"]), ("abc", ["a", "b", "c"]),
            ("acb", ["a", "c", "b"]), ("abcd", ["ab", "bc", "cd", "da"]), ("dbca", ["db", "bc", "ca", "ad"]),
            ("abcde", ["ab", "bc", "cd", "de", "ea"]), ("abcdef", ["abc", "bcd", "cde", "def", "efa", "fab"]),
        ):
            self.assert_told(halves, ([order], order), expected)
            self.assert_told(halves, (list(order), order), expected)

    def test_twice_the_reach_is_the_sum_of_the_halves_cuts(self):
        for book in BOOKS:
            for order in orders_of(book):
                found = halves(book, order)
                self.assertEqual(len(found), len(order))
                self.assertEqual(2 * reach(book, order), sum(cut_of(book, half) for half in found), (book, order))

    def test_the_spread_is_the_sum_of_the_beginnings_cuts(self):
        for book in BOOKS:
            for order in orders_of(book):
                beginnings = [order[:count] for count in range(len(order) + 1)]
                self.assertEqual(spread(book, order), sum(cut_of(book, some) for some in beginnings), (book, order))


class RefusalTest(AskingTest):
    def assert_no_book(self, book):
        for deed in (signs_of, pairs_of):
            self.assert_refused(NoBook, deed, book)
        for deed in (reach, spread, halves, cut):
            for text in ("", "ab", "ba", "A", "a" * 81):
                self.assert_refused(NoBook, deed, book, text)

    def test_no_book(self):
        for book in NO_BOOKS + NO_LISTS + [["a", None], [1], [["a"]], [("a", "b")], [True]]:
            self.assert_no_book(book)

    def test_every_mark_that_is_no_sign(self):
        for mark in NO_SIGNS + FOREIGN:
            for text in spoilt(mark):
                self.assert_refused(NoBook, signs_of, ["ab", text])
                self.assert_refused(NoBook, pairs_of, [text, "ab"])

    def test_twenty_words_of_eighty_signs_are_a_book(self):
        self.assertEqual(signs_of(["a" * 80] * 20), "a")
        self.assertEqual(pairs_of(["ab" * 40] * 20), [("a", "b", 79 * 20)])

    def assert_no_order(self, book, order):
        for deed in (reach, spread, halves):
            self.assert_refused(NoOrder, deed, book, order)

    def test_a_sign_left_out_or_told_twice(self):
        book = ["cab", "bd"]
        for order in ("", "a", "abc", "bcd", "abcdd", "aabcd", "abca", "abcdabcd", "aaaa", "abcd" * 1000):
            self.assert_no_order(book, order)

    def test_a_sign_exchanged_or_put_in(self):
        book = ["cab", "bd"]
        for order in ("abce", "zbcd", "abcde", "zabcd", "Abcd", "abc-", "abcd ", " abcd", "abcd\n", "ab cd", "1234"):
            self.assert_no_order(book, order)
        for mark in NO_SIGNS + FOREIGN:
            for order in ("abc" + mark, "abcd" + mark, mark + "abcd", "ab" + mark + "cd"):
                self.assert_no_order(book, order)

    def test_books_without_signs(self):
        for book in ([], [""], ["", ""]):
            for order in ("a", "ab", " ", "-", "\n"):
                self.assert_no_order(book, order)
            self.assert_told(reach, (book, ""), 0)
            self.assert_told(spread, (book, ""), 0)
            self.assert_told(halves, (book, ""), [])

    def test_what_is_no_text_is_no_order(self):
        for thing in (None, 1, ["a", "b"], ("a", "b"), [], True):
            self.assert_no_order(["ab"], thing)

    def test_what_is_refused_changes_no_later_answer(self):
        before = (pairs_of(["abc"]), halves(["abc"], "bca"))
        self.assert_no_order(["abc"], "abd")
        self.assertEqual((pairs_of(["abc"]), halves(["abc"], "bca")), before)


if __name__ == "__main__":
    unittest.main()
