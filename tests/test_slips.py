"""Promises 21 and 22: slips, what is seen with them, the least ones and how many."""

import itertools
import unittest

from samples import AskingTest, FOREIGN, NO_SIGNS, NO_TEXTS, NO_WHEELS, NO_WORDS, jumble, scrambled, spoilt
from strikewheel.errors import Lacks, NoTurns, NoWheel, NoWord
from strikewheel.plans import struck
from strikewheel.slips import least_slips, many_slips, seen

ALPHABET = "abcdefghijklmnopqrstuvwxyz"
HUGE = 10 ** 39

WHEELS = ["a", "ab", "aa", "abc", "aab", "aba", "abb", "abcd", "aabb", "abab", "abca", "aaab"]


def walked(wheel, turns, slips):
    """What is seen, with the head led on place by place, by turns of any size and slips as told."""
    signs = ""
    place = 0
    for number, turn in enumerate(turns):
        place += turn
        for k, by in slips:
            if k == number:
                place += by
        signs += wheel[place - place // len(wheel) * len(wheel)]
    return signs


def all_slips(places, strikes):
    """All slips of a wheel of so many places ahead of so many strikes."""
    found = []
    for bys in itertools.product(range(places), repeat=strikes):
        found.append([(k, by) for k, by in enumerate(bys) if by > 0])
    return found


def by_beginnings(wheel, turns, word):
    """The first shortest slips and how many, from the beginning to the end.

    It serves where there are too many slips to go through: for each place off
    the told one, the fewest slips, the first list of so few, and how many.
    """
    row = {0: (0, (), 1)}
    place = 0
    for number, turn in enumerate(turns):
        place += turn
        after = {}
        for off, (few, slips, many) in row.items():
            for by in range(len(wheel)):
                then = (off + by) % len(wheel)
                if wheel[(place + then) % len(wheel)] != word[number]:
                    continue
                told = (few + 1, slips + ((number, by),)) if by else (few, slips)
                best = after.get(then)
                if best is None or told[0] < best[0]:
                    after[then] = told + (many,)
                elif told[0] == best[0]:
                    after[then] = (told[0], min(best[1], told[1]), best[2] + many)
        row = after
    fewest = min(found[0] for found in row.values())
    ends = [found for found in row.values() if found[0] == fewest]
    return list(min(found[1] for found in ends)), sum(found[2] for found in ends)


class SeenTest(AskingTest):
    def test_by_hand(self):
        self.assert_told(seen, ("abcd", [1, 1, 1], [(1, 1)]), "bda")
        self.assert_told(seen, ("abcd", [1, 1, 1], [(0, 2)]), "dab")
        self.assert_told(seen, ("abcd", [1, 1, 1], [(2, 3)]), "bcc")
        self.assert_told(seen, ("abcd", [0, 0, 0, 0], [(0, 1), (2, 1)]), "bbcc")
        self.assert_told(seen, ("abcd", [-1, -1], [(0, 3), (1, 1)]), "cc")

    def test_no_turns(self):
        for wheel in WHEELS:
            self.assert_told(seen, (wheel, [], []), "")
        self.assert_told(seen, ("abc", [], [(0, 1)]), "")
        self.assert_told(seen, ("abc", [], [(0, 1), (7, 2)]), "")

    def test_no_slips(self):
        for wheel in WHEELS + ["strikewheel", ALPHABET + "abcd"]:
            for turns in ([0], [1, 2, 3], [-1, 5, 0, 0, -7], jumble(80, -40, 40, len(wheel))):
                self.assert_told(seen, (wheel, turns, []), struck(wheel, turns))
                self.assertEqual(walked(wheel, turns, []), struck(wheel, turns))

    def test_the_first_and_the_last_strike(self):
        for by, first, last in ((1, "cdeab", "bcdeb"), (4, "abcde", "bcdee"), (2, "deabc", "bcdec")):
            self.assert_told(seen, ("abcde", [1] * 5, [(0, by)]), first)
            self.assert_told(seen, ("abcde", [1] * 5, [(4, by)]), last)
            self.assert_told(seen, ("abcde", [1] * 5, [(0, by), (4, by)]), walked("abcde", [1] * 5, [(0, by), (4, by)]))

    def test_every_strike(self):
        self.assert_told(seen, ("abcde", [0] * 5, [(k, 1) for k in range(5)]), "bcdea")
        self.assert_told(seen, ("abcde", [0] * 5, [(k, 4) for k in range(5)]), "edcba")
        self.assert_told(seen, ("abcde", [1] * 5, [(k, 4) for k in range(5)]), "aaaaa")
        self.assert_told(seen, ("ab", [1] * 4, [(k, 1) for k in range(4)]), "aaaa")

    def test_where_there_is_no_such_strike(self):
        for slips in ([(3, 1)], [(3, 1), (4, 2)], [(80, 2)], [(HUGE, 1)]):
            self.assert_told(seen, ("abc", [1, 1, 1], slips), "bca")
            self.assert_told(seen, ("abc", [1, 1, 1], [(2, 1)] + slips), "bcb")

    def test_a_wheel_of_one_place(self):
        for turns in ([0], [1], [-1, 7, 0], [HUGE] * 80):
            self.assert_told(seen, ("q", turns, []), "q" * len(turns))

    def test_turns_of_any_size(self):
        for turns, expected in (
            ([3], "b"), ([4], "c"), ([-3], "b"), ([-1], "a"), ([6, -6], "bb"), ([HUGE], "c"), ([-HUGE], "a"),
            ([HUGE, -HUGE], "cb"), ([HUGE - 1, 1], "bc"),
        ):
            # 10 ** 39 leaves 1 where it is parted by 3.
            self.assert_told(seen, ("abc", turns, [(0, 1)]), expected)

    def test_eighty_turns(self):
        for wheel in ("ab", "strikewheel", ALPHABET, "abc" * 10):
            for low, high in ((-1, 1), (-30, 30), (-HUGE, HUGE), (10 ** 38, HUGE)):
                turns = jumble(80, low, high, len(wheel))
                for every in (1, 2, 9, 79):
                    bys = jumble(80, 1, len(wheel) - 1, every)
                    slips = [(k, bys[k]) for k in range(0, 80, every)]
                    self.assert_told(seen, (wheel, turns, slips), walked(wheel, turns, slips))

    def test_all_slips_of_small_wheels(self):
        for wheel in WHEELS:
            for turns in ([], [1], [0, 1], [2, -1, 5], [-7, 0, 0]):
                for slips in all_slips(len(wheel), len(turns)):
                    self.assertEqual(seen(wheel, turns, slips), walked(wheel, turns, slips), (wheel, turns, slips))

    def test_refusals(self):
        for text in NO_WHEELS:
            for turns in ([], [1], [1, 2, 3]):
                self.assert_refused(NoWheel, seen, text, turns, [])
                self.assert_refused(NoWheel, seen, text, turns, [(0, 1)])
        for mark in NO_SIGNS + FOREIGN:
            for text in spoilt(mark):
                self.assert_refused(NoWheel, seen, text, [1], [])
        for thing in NO_TEXTS:
            self.assert_refused(NoWheel, seen, thing, [1], [])


class LeastSlipsTest(AskingTest):
    def assert_slips(self, wheel, turns, word, slips, many):
        self.assert_told(least_slips, (wheel, turns, word), slips)
        self.assert_told(many_slips, (wheel, turns, word), many)

    def test_by_hand(self):
        self.assert_slips("abcd", [1, 1, 1], "bda", [(1, 1)], 1)
        self.assert_slips("abcd", [1, 1, 1], "bdd", [(1, 1), (2, 3)], 1)
        self.assert_slips("abcd", [0, 0, 0], "aca", [(1, 2), (2, 2)], 1)
        self.assert_slips("aab", [1], "b", [(0, 1)], 1)
        self.assert_slips("aab", [2], "a", [(0, 1)], 2)

    def test_the_first_of_several(self):
        # It may have slipped ahead of the first strike or of the second.
        self.assert_slips("aab", [0, 1], "ab", [(0, 1)], 2)
        self.assert_slips("aaab", [0, 0, 1], "aab", [(0, 2)], 3)
        # By 1 or by 2, of which 1 is the lesser.
        self.assert_slips("baa", [0], "a", [(0, 1)], 2)
        self.assert_slips("abab", [1, 0], "aa", [(0, 1)], 2)
        # The first slip as early as can be, though it be by more places then.
        self.assert_slips("aab", [1, 1], "aa", [(0, 2)], 3)
        self.assert_slips("aabb", [1, 1], "aa", [(0, 3)], 3)

    def test_a_slip_less_goes_ahead_of_an_early_one(self):
        self.assert_slips("aab", [0, 1, 1], "aab", [], 1)
        self.assert_slips("aabb", [0, 1, 1, 1], "aabb", [], 1)

    def test_struck_without_slips(self):
        for wheel in WHEELS + ["strikewheel", ALPHABET + "abcd", "ab" * 15]:
            for count in (1, 2, 7, 80):
                turns = jumble(count, -HUGE, HUGE, count)
                self.assert_slips(wheel, turns, struck(wheel, turns), [], 1)

    def test_the_word_without_signs(self):
        for wheel in WHEELS + ["strikewheel", "a" * 30]:
            self.assert_slips(wheel, [], "", [], 1)

    def test_a_wheel_of_one_place(self):
        for turns in ([0], [5, -3], [HUGE] * 80):
            self.assert_slips("q", turns, "q" * len(turns), [], 1)

    def test_at_every_strike(self):
        self.assert_slips("abc", [1, 1, 1], "aaa", [(0, 2), (1, 2), (2, 2)], 1)
        self.assert_slips("abc", [0, 0, 0, 0], "bcab", [(0, 1), (1, 1), (2, 1), (3, 1)], 1)
        self.assert_slips("abc", [0, 0, 0], "cba", [(0, 2), (1, 2), (2, 2)], 1)

    def test_against_all_slips(self):
        for wheel in WHEELS:
            for count in range(5 if len(wheel) < 4 else 4):
                listed = [[1] * count, [0] * count, jumble(count, -9, 9, count + len(wheel)), [-HUGE] * count]
                for turns in listed:
                    self.assert_by_all(wheel, turns)

    def assert_by_all(self, wheel, turns):
        """Every word that can be seen has the first of its shortest slips, and as many as told."""
        told = {}
        for slips in all_slips(len(wheel), len(turns)):
            told.setdefault(walked(wheel, turns, slips), []).append(slips)
        words = ["".join(word) for word in itertools.product(sorted(set(wheel)), repeat=len(turns))]
        self.assertEqual(sorted(told), words)
        for word in words:
            fewest = min(len(slips) for slips in told[word])
            short = [slips for slips in told[word] if len(slips) == fewest]
            self.assertEqual(least_slips(wheel, turns, word), min(short), (wheel, turns, word))
            self.assertEqual(many_slips(wheel, turns, word), len(short), (wheel, turns, word))
            self.assertEqual(by_beginnings(wheel, turns, word), (min(short), len(short)))

    def test_thirty_places_and_eighty_turns(self):
        for wheel in ("ab" * 15, "a" * 29 + "b", "aab" * 10, "abc" * 10, "aaaaabbbbbccccc" * 2, ALPHABET + "abcd"):
            for low, high, step in ((0, 1, 3), (-29, 29, 4), (-HUGE, HUGE, 5)):
                turns = jumble(80, low, high, step)
                word = scrambled(sorted(set(wheel)), 1, 80, step)[0]
                slips, many = by_beginnings(wheel, turns, word)
                self.assert_slips(wheel, turns, word, slips, many)
        self.assert_slips("a" * 30, jumble(80, -HUGE, HUGE, 6), "a" * 80, [], 1)

    def test_other_wheels_and_few_slips(self):
        for wheel in ("strikewheel", "abcab", "mississippi", "aabbaabb"):
            for step in range(1, 9):
                count = step * 4
                turns = jumble(count, -20, 20, step)
                slips = [(step, 1), (step + 2, len(wheel) - 1)]
                word = walked(wheel, turns, slips)
                self.assertEqual((least_slips(wheel, turns, word), many_slips(wheel, turns, word)),
                                 by_beginnings(wheel, turns, word))

    def test_whatever_slipped_is_explained_by_no_more(self):
        for wheel in ("ab", "aab", "strikewheel", "abcab", "abcdefgh", "ab" * 15):
            for step in range(1, 13):
                turns = jumble(20, -50, 50, step)
                bys = jumble(20, 1, len(wheel) - 1, step + 1)
                slips = [(k, bys[k]) for k in range(20) if k % step == 0]
                word = seen(wheel, turns, slips)
                told = least_slips(wheel, turns, word)
                self.assertEqual(seen(wheel, turns, told), word)
                self.assertLessEqual(len(told), len(slips))
                self.assertTrue(all(0 <= k < 20 and 1 <= by < len(wheel) for k, by in told), told)
                self.assertEqual([k for k, by in told], sorted({k for k, by in told}))


class RefusalTest(AskingTest):
    def assert_both(self, refusal, wheel, turns, word):
        self.assert_refused(refusal, least_slips, wheel, turns, word)
        self.assert_refused(refusal, many_slips, wheel, turns, word)

    def test_no_wheel_goes_first(self):
        for text in NO_WHEELS:
            for turns, word in (([1], "a"), ([1, 2], "a"), ([], "A"), ([1] * 81, "a" * 81), ([], ""), ([1], "z")):
                self.assert_both(NoWheel, text, turns, word)
        for mark in NO_SIGNS + FOREIGN:
            for text in spoilt(mark):
                self.assert_both(NoWheel, text, [1], "a")
        for thing in NO_TEXTS:
            self.assert_both(NoWheel, thing, [1], "a")

    def test_then_no_word(self):
        for text in NO_WORDS + NO_TEXTS:
            for turns in ([], [1], [1] * 80, [1] * 81):
                self.assert_both(NoWord, "ab", turns, text)
        for mark in NO_SIGNS + FOREIGN:
            for text in spoilt(mark):
                self.assert_both(NoWord, "ab", [1], text)

    def test_then_no_turns(self):
        for turns, word in (
            ([], "a"), ([1], ""), ([1], "ab"), ([1, 2], "a"), ([1] * 79, "a" * 80), ([1] * 80, "a" * 79), ([HUGE], ""),
            ([1] * 81, "a" * 80), ([1] * 200, "ab"), ([], "z"), ([1, 1], "z"), ([0], "za"),
        ):
            self.assert_both(NoTurns, "ab", turns, word)

    def test_lacks_goes_last(self):
        for turns, word in (([1], "c"), ([1, 2], "ac"), ([1, 2], "ca"), ([1] * 80, "a" * 79 + "z"), ([0], "z")):
            self.assert_both(Lacks, "ab", turns, word)
        self.assert_both(Lacks, "q", [1], "r")

    def test_what_is_refused_changes_no_later_answer(self):
        before = least_slips("aab", [0, 1], "ab")
        self.assert_both(Lacks, "aab", [0, 1], "ac")
        self.assert_both(NoTurns, "aab", [0, 1], "a")
        self.assertEqual(least_slips("aab", [0, 1], "ab"), before)


if __name__ == "__main__":
    unittest.main()
