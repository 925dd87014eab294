"""Promises 17 and 18: least halves, floors, the best order and the fair one."""

import itertools
import unittest

from samples import AskingTest, NO_BOOKS, NO_LISTS, cut_of, neighbours, scrambled
from strikewheel.books import reach, signs_of
from strikewheel.errors import NoBook, TooMany
from strikewheel.orders import best_order, fair_order, floor_of, least_half

ALPHABET = "abcdefghijklmnopqrstuvwxyz"

SMALL = [
    ["a"], ["aaa", ""], ["ab"], ["a", "b"], ["ba", "ab"], ["abc"], ["ac", "b"], ["cab", "bac"], ["abcd"], ["acbd"],
    ["abab", "cdcd"], ["ad", "bc", "ad"], ["abcde"], ["acebd"], ["ace", "bdb", "ab"], ["a", "b", "c", "d", "e"],
    ["ababab", "cc", "de"], ["abcdef"], ["adbecf"], ["fad", "becab", "cfc"], ["aedebfcbd", "ffa"], ["ab", "cd", "ef"],
    scrambled("abcde", 3, 9, 1), scrambled("abcdef", 4, 12, 2), scrambled("abcdef", 20, 80, 3),
    scrambled("cdxyz", 5, 20, 4), scrambled("bdfhjl", 2, 30, 5),
]
MIDDLE = [
    ["strike", "wheel"], ["thequickb", "brow"], scrambled("abcdefgh", 6, 20, 6), scrambled("abcdefghi", 20, 80, 7),
    scrambled("mnopqrstuv", 3, 30, 8), scrambled("abcdefghijk", 5, 40, 9), ["abcdefghijkl"], ["lakbjcidhegf"],
    scrambled("abcdefghijkl", 20, 80, 10), scrambled("abcdefghijkl", 3, 20, 11), list("abcdefghijkl"),
    ["agbhcidjekfl", "ag", "la"],
]
SEVEN = [
    ["abcdefg"], ["adgcfbe", "gab"], list("abcdefg"), scrambled("abcdefg", 5, 20, 12), scrambled("gjlnqsw", 9, 60, 13),
]

NO_SIGN_BOOKS = [[], [""], [""] * 20]


def way(place, other, count):
    """The way between two of so many places round a wheel."""
    return min((other - place) % count, (place - other) % count)


def reaching(book, order):
    """The reach of an order, by all its places."""
    return sum(
        neighbours(book, order[place], order[other]) * way(place, other, len(order))
        for place, other in itertools.combinations(range(len(order)), 2)
    )


def signs_in(book):
    """The signs of a book, rising."""
    return "".join(sorted(set("".join(book))))


def swapped(order, place, other):
    """An order with the signs at two places exchanged."""
    signs = list(order)
    signs[place], signs[other] = signs[other], signs[place]
    return "".join(signs)


class LeastHalfTest(AskingTest):
    def test_by_hand(self):
        for book, expected in (
            (["a"], ("", 0)), (["zz"], ("", 0)), (["ab"], ("a", 1)), (["a", "b"], ("a", 0)), (["abc"], ("a", 1)),
            (["bac"], ("b", 1)), (["abcd"], ("ab", 1)), (["acbd"], ("ac", 1)), (["abab", "cdcd"], ("ab", 0)),
            (["ad", "bc"], ("ad", 0)), (["ab", "ac", "bc"], ("a", 2)), (["abcdefghijkl"], ("abcdef", 1)),
        ):
            self.assert_told(least_half, (book,), expected)

    def test_the_first_of_several(self):
        self.assert_told(least_half, (list("abcdef"),), ("abc", 0))
        self.assert_told(least_half, (["abcda"],), ("ab", 2))
        self.assert_told(least_half, (["acbda"],), ("ac", 2))

    def test_against_all_sets(self):
        for book in SMALL + SEVEN + MIDDLE:
            signs = signs_in(book)
            halves = ["".join(half) for half in itertools.combinations(signs, len(signs) // 2)]
            least = min(cut_of(book, half) for half in halves)
            first = min(half for half in halves if cut_of(book, half) == least)
            self.assert_told(least_half, (book,), (first, least))


class FloorTest(AskingTest):
    def test_by_hand(self):
        for book, expected in (
            (["a"], 0), (["ab"], 1), (["aba"], 2), (["a", "b"], 0), (["abc"], 2), (["abca"], 3), (["abcd"], 3),
            # Five signs, the least half cut once: half of five, rounded up, but four pairs of a way of 1.
            (["abcde"], 4),
        ):
            self.assert_told(floor_of, (book,), expected)

    def test_the_half_floor_rounded_up(self):
        # Three signs, each two of them once, one of them twice: 3 * 2 / 2 is less than the pairs' 4.
        self.assert_told(floor_of, (["abcab"],), 4)
        greater = 0
        for book in SMALL + SEVEN + MIDDLE:
            count = len(signs_in(book))
            half, least = least_half(book)
            if -(-count * least // 2) > self.pair_floor(book):
                greater += 1
        self.assertGreater(greater, 2)

    def pair_floor(self, book):
        signs = signs_in(book)
        counts = sorted((neighbours(book, one, two) for one, two in itertools.combinations(signs, 2)), reverse=True)
        ways = sorted(way(one, two, len(signs)) for one, two in itertools.combinations(range(len(signs)), 2))
        self.assertEqual(len(counts), len(ways))
        return sum(counts[at] * ways[at] for at in range(len(ways)))

    def half_floor(self, book):
        signs = signs_in(book)
        least = min(cut_of(book, half) for half in itertools.combinations(signs, len(signs) // 2))
        floor = 0
        while 2 * floor < len(signs) * least:
            floor += 1
        return floor

    def test_against_both_floors(self):
        rounded = 0
        for book in SMALL + SEVEN + MIDDLE:
            half, pair = self.half_floor(book), self.pair_floor(book)
            rounded += half > pair and (len(signs_in(book)) * least_half(book)[1]) % 2
            self.assert_told(floor_of, (book,), max(half, pair))
        # Some of these books are such that rounding up is seen.
        self.assertGreater(rounded, 0)

    def test_no_order_reaches_less(self):
        for book in SMALL:
            for order in itertools.permutations(signs_in(book)):
                self.assertGreaterEqual(reaching(book, order), floor_of(book))
        for book in SEVEN + MIDDLE:
            for order in (signs_in(book), fair_order(book), signs_in(book)[::2] + signs_in(book)[1::2]):
                self.assertGreaterEqual(reach(book, order), floor_of(book))


class BestOrderTest(AskingTest):
    def test_by_hand(self):
        for book, expected in (
            (["a"], "a"), (["ba"], "ab"), (["cab"], "abc"), (["abcd"], "abcd"), (["acbd"], "acbd"),
            (["dacb"], "acbd"), (list("dcba"), "abcd"), (["acac", "bdbd"], "abdc"), (["zxy"], "xyz"),
        ):
            self.assert_told(best_order, (book,), expected)

    def test_against_all_orders(self):
        for book in SMALL:
            orders = ["".join(order) for order in itertools.permutations(signs_in(book))]
            least = min(reaching(book, order) for order in orders)
            first = min(order for order in orders if reaching(book, order) == least)
            self.assert_told(best_order, (book,), first)

    def test_seven_signs(self):
        for book in SEVEN:
            self.assertEqual(len(signs_in(book)), 7)
            orders = ["".join(order) for order in itertools.permutations(signs_in(book))]
            reaches = {order: reach(book, order) for order in orders}
            least = min(reaches.values())
            self.assert_told(best_order, (book,), min(order for order in orders if reaches[order] == least))


class FairOrderTest(AskingTest):
    def fair_by_the_rule(self, book):
        """The fair order, by the told rule done step by step; also how many steps."""
        order = signs_in(book)
        steps = 0
        while True:
            now = reaching(book, order)
            best = None
            for place in range(len(order)):
                for other in range(place + 1, len(order)):
                    then = reaching(book, swapped(order, place, other))
                    if then < now and (best is None or then < best[0]):
                        best = (then, place, other)
            if best is None:
                return order, steps
            order = swapped(order, best[1], best[2])
            steps += 1

    def test_by_hand(self):
        for book, expected in (
            (["a"], "a"), (["ba"], "ab"), (["cab"], "abc"), (["abcd"], "abcd"), (list("dcba"), "abcd"),
            # a with c and b with d stand apart at first; of the exchanges that help, places 0 and 1 come first.
            (["acac", "bdbd"], "bacd"),
        ):
            self.assert_told(fair_order, (book,), expected)

    def test_by_the_told_rule(self):
        most = 0
        for book in SMALL + SEVEN + MIDDLE:
            order, steps = self.fair_by_the_rule(book)
            most = max(most, steps)
            self.assert_told(fair_order, (book,), order)
        self.assertGreater(most, 4)

    def test_no_exchange_betters_it(self):
        for book in SMALL + SEVEN + MIDDLE:
            order = fair_order(book)
            self.assertEqual("".join(sorted(order)), signs_of(book))
            for place, other in itertools.combinations(range(len(order)), 2):
                self.assertGreaterEqual(reach(book, swapped(order, place, other)), reach(book, order))

    def test_none_reaches_less_than_the_best_one(self):
        for book in SMALL + SEVEN:
            self.assertGreaterEqual(reach(book, fair_order(book)), reach(book, best_order(book)))
            self.assertLessEqual(reach(book, fair_order(book)), reach(book, signs_of(book)))


class RefusalTest(AskingTest):
    ALL = (least_half, floor_of, best_order, fair_order)

    def test_no_book(self):
        for book in NO_BOOKS + NO_LISTS + [[ALPHABET] * 21, [ALPHABET, "-"], [""] * 21]:
            for deed in self.ALL:
                self.assert_refused(NoBook, deed, book)

    def test_no_signs(self):
        for book in NO_SIGN_BOOKS:
            for deed in self.ALL:
                self.assert_refused(TooMany, deed, book)

    def test_more_signs_than_told(self):
        for count in (13, 14, 26):
            for book in ([ALPHABET[:count]], list(ALPHABET[-count:])[:20], [ALPHABET[:count]] * 20):
                for deed in self.ALL:
                    self.assert_refused(TooMany, deed, book)
        for count in (8, 9, 12):
            self.assert_refused(TooMany, best_order, [ALPHABET[:count]])

    def test_just_as_many_as_told(self):
        for signs in (ALPHABET[:12], ALPHABET[-12:]):
            self.assert_told(least_half, ([signs],), (signs[:6], 1))
            self.assert_told(floor_of, ([signs],), 11)
            self.assert_told(fair_order, ([signs],), signs)
        self.assert_told(best_order, ([ALPHABET[-7:]],), ALPHABET[-7:])


if __name__ == "__main__":
    unittest.main()
