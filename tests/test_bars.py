"""Promise 19: the bar table and the best bar."""

import itertools
import unittest

from samples import AskingTest, NO_BOOKS, NO_LISTS, cut_of, neighbours, scrambled
from strikewheel.bars import bar_table, best_bar
from strikewheel.books import cut, spread
from strikewheel.errors import NoBook, TooMany

ALPHABET = "abcdefghijklmnopqrstuvwxyz"

SMALL = [
    ["a"], ["aaa", ""], ["ab"], ["a", "b"], ["ba", "ab"], ["abc"], ["ac", "b"], ["cab", "bac"], ["abcd"], ["acbd"],
    ["abab", "cdcd"], ["ad", "bc", "ad"], ["abcde"], ["acebd"], ["ace", "bdb", "ab"], ["a", "b", "c", "d", "e"],
    ["ababab", "cc", "de"], ["abcdef"], ["adbecf"], ["fad", "becab", "cfc"], ["aedebfcbd", "ffa"],
    scrambled("abcde", 3, 9, 1), scrambled("abcdef", 4, 12, 2), scrambled("abcdef", 20, 80, 3),
    scrambled("cdxyz", 5, 20, 4), scrambled("bdfhjl", 2, 30, 5),
]
TEN = [
    ["abcdefghij"], ["jaibhcgdfe", "ab"], list("abcdefghij"), scrambled("abcdefghij", 20, 80, 6),
    scrambled("bdfhjlnprt", 3, 25, 7), scrambled("abcdefghi", 8, 30, 8), ["strike", "wheel"],
]


def signs_in(book):
    """The signs of a book, rising."""
    return "".join(sorted(set("".join(book))))


def sum_of_cuts(book, order):
    """The sum of the cuts of all beginnings of one sign or more, the whole included."""
    return sum(cut_of(book, order[:count]) for count in range(1, len(order) + 1))


def spreading(book, order):
    """The spread of an order, by all its places."""
    return sum(
        neighbours(book, order[place], order[other]) * (other - place)
        for place, other in itertools.combinations(range(len(order)), 2)
    )


def sets_of(signs):
    """All sets of signs as rising words, none and all among them."""
    return ["".join(part) for count in range(len(signs) + 1) for part in itertools.combinations(signs, count)]


class TableTest(AskingTest):
    def test_by_hand(self):
        self.assert_told(bar_table, (["a"],), [("", 0), ("a", 0)])
        self.assert_told(bar_table, (["ab"],), [("", 0), ("a", 1), ("ab", 1), ("b", 1)])
        self.assert_told(bar_table, (["z", "y"],), [("", 0), ("y", 0), ("yz", 0), ("z", 0)])
        self.assert_told(bar_table, (["abcb"],), [
            ("", 0), ("a", 1), ("ab", 3), ("abc", 3), ("ac", 4), ("b", 3), ("bc", 3), ("c", 2),
        ])

    def test_against_all_orders(self):
        for book in SMALL:
            expected = []
            for part in sorted(sets_of(signs_in(book))):
                expected.append((part, min(sum_of_cuts(book, order) for order in itertools.permutations(part))))
            self.assert_told(bar_table, (book,), expected)

    def test_ten_signs_set_by_set(self):
        # Some sign of each set stands last, and what is ahead of it is in the table.
        for book in TEN:
            signs = signs_in(book)
            rows = bar_table(book)
            self.assertEqual([part for part, least in rows], sorted(sets_of(signs)))
            sums = dict(rows)
            self.assertEqual(sums[""], 0)
            for part in sets_of(signs)[1:]:
                ahead = [sums["".join(sign for sign in part if sign != last)] for last in part]
                self.assertEqual(sums[part], min(ahead) + cut(book, part), (book, part))

    def test_the_shape(self):
        for book in SMALL + TEN:
            rows = bar_table(book)
            self.assertIs(type(rows), list)
            self.assertEqual(len(rows), 2 ** len(signs_in(book)))
            self.assertEqual(rows, sorted(rows))
            for row in rows:
                self.assertIs(type(row), tuple)
                self.assertEqual([type(part) for part in row], [str, int])


class BestBarTest(AskingTest):
    def test_by_hand(self):
        for book, expected in (
            (["a"], ("a", 0)), (["ba"], ("ab", 1)), (["a", "b"], ("ab", 0)), (["cab"], ("bac", 2)),
            (["acbd"], ("acbd", 3)), (["dbca"], ("acbd", 3)), (["abca"], ("abc", 4)), (["bac"], ("bac", 2)),
            (list("dcba"), ("abcd", 0)), (["abcdefghij"], ("abcdefghij", 9)), (["jihgfedcba"], ("abcdefghij", 9)),
        ):
            self.assert_told(best_bar, (book,), expected)

    def test_against_all_orders(self):
        for book in SMALL:
            orders = ["".join(order) for order in itertools.permutations(signs_in(book))]
            least = min(spreading(book, order) for order in orders)
            first = min(order for order in orders if spreading(book, order) == least)
            self.assert_told(best_bar, (book,), (first, least))

    def test_seven_signs(self):
        for book in (scrambled("abcdefg", 5, 20, 12), ["adgcfbe", "gab"]):
            orders = ["".join(order) for order in itertools.permutations(signs_in(book))]
            spreads = {order: spreading(book, order) for order in orders}
            least = min(spreads.values())
            first = min(order for order in orders if spreads[order] == least)
            self.assert_told(best_bar, (book,), (first, least))

    def first_by_beginnings(self, book):
        """The first of the orders with the least spread, kept for each set of signs from none on."""
        best = {"": (0, "")}
        for part in sets_of(signs_in(book))[1:]:
            found = []
            for last in part:
                least, order = best["".join(sign for sign in part if sign != last)]
                found.append((least + cut_of(book, part), order + last))
            best[part] = min(found)
        return best[signs_in(book)][::-1]

    def test_ten_signs(self):
        for book in TEN:
            self.assert_told(best_bar, (book,), self.first_by_beginnings(book))

    def test_it_spreads_as_told_and_as_the_table_tells(self):
        for book in SMALL + TEN:
            order, least = best_bar(book)
            self.assertEqual(spread(book, order), least)
            self.assertEqual(sum_of_cuts(book, order), least)
            self.assertEqual(dict(bar_table(book))[signs_in(book)], least)


class RefusalTest(AskingTest):
    ALL = (bar_table, best_bar)

    def test_no_book(self):
        for book in NO_BOOKS + NO_LISTS + [[ALPHABET] * 21, [ALPHABET, "-"], [""] * 21]:
            for deed in self.ALL:
                self.assert_refused(NoBook, deed, book)

    def test_no_signs(self):
        for book in ([], [""], [""] * 20):
            for deed in self.ALL:
                self.assert_refused(TooMany, deed, book)

    def test_more_signs_than_told(self):
        for count in (11, 12, 26):
            for book in ([ALPHABET[:count]], list(ALPHABET[-count:])[:20], [ALPHABET[:count]] * 20):
                for deed in self.ALL:
                    self.assert_refused(TooMany, deed, book)

    def test_just_as_many_as_told(self):
        self.assert_told(best_bar, ([ALPHABET[-10:]],), (ALPHABET[-10:], 9))
        self.assertEqual(len(bar_table([ALPHABET[-10:]])), 1024)


if __name__ == "__main__":
    unittest.main()
