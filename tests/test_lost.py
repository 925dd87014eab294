"""Promises 26 and 27: places where the head may have stood, turns that tell places apart."""

import itertools
import unittest

from samples import AskingTest, FOREIGN, NO_SIGNS, NO_TEXTS, NO_WHEELS, NO_WORDS, jumble, scrambled, spoilt
from strikewheel.errors import NoTurns, NoWheel, NoWord, TooMany
from strikewheel.lost import finder, places_by, tells_apart
from strikewheel.plans import struck
from strikewheel.wheels import turned

ALPHABET = "abcdefghijklmnopqrstuvwxyz"
HUGE = 10 ** 39

WHEELS = ["a", "ab", "aa", "abc", "aab", "abab", "abca", "aaab", "abcab", "aabaab", "strikewheel", ALPHABET + "abcd"]
TURNS = [[], [0], [1], [-1], [1, 1], [0, 0], [2, -1, 5], [30, -30, 31], [HUGE, -HUGE, HUGE - 1], [-HUGE] * 3]


def word_from(wheel, place, turns):
    """What turns strike with the head at a place at first."""
    signs = ""
    for turn in turns:
        place += turn
        signs += wheel[place - place // len(wheel) * len(wheel)]
    return signs


def is_itself_turned(wheel):
    """Whether the wheel turned by some k, above 0 and below n, is itself."""
    count = len(wheel)
    return any(all(wheel[p] == wheel[(p + k) % count] for p in range(count)) for k in range(1, count))


def apart_by(wheel, turns):
    """Whether no two places strike the same word, asked of each two."""
    words = [word_from(wheel, place, turns) for place in range(len(wheel))]
    return all(one != other for one, other in itertools.combinations(words, 2))


def first_by_all(wheel):
    """The first of the fewest turns that tell places apart, all lists gone through."""
    for count in range(len(wheel)):
        for turns in itertools.product(range(len(wheel)), repeat=count):
            if apart_by(wheel, turns):
                return list(turns)
    return None


def first_by_classes(wheel):
    """The same, by which places are told apart so far, where lists are too many to go through.

    Of all lists of so many turns that end so many places on and tell the same
    places apart, only the first can begin the first list of all.
    """
    count = len(wheel)
    row = {(0, (0,) * count): ()}
    for unused in range(count):
        ready = [turns for (on, classes), turns in row.items() if len(set(classes)) == count]
        if ready:
            return list(min(ready))
        after = {}
        for (on, classes), turns in row.items():
            for turn in range(count):
                there = (on + turn) % count
                marks = [(classes[place], wheel[(place + there) % count]) for place in range(count)]
                # Numbered as they first come, so that one parting of the places has one name.
                state = (there, tuple(marks.index(mark) for mark in marks))
                longer = turns + (turn,)
                if state not in after or longer < after[state]:
                    after[state] = longer
        row = after
    return None


class PlacesByTest(AskingTest):
    def test_by_hand(self):
        self.assert_told(places_by, ("abcab", [0], "a"), [0, 3])
        self.assert_told(places_by, ("abcab", [1], "a"), [2, 4])
        self.assert_told(places_by, ("abcab", [0, 1], "ab"), [0, 3])
        self.assert_told(places_by, ("abcab", [0, 2], "ac"), [0])
        self.assert_told(places_by, ("abcab", [-1], "c"), [3])
        self.assert_told(places_by, ("abcab", [0, 0], "ab"), [])

    def test_every_place_some_and_none(self):
        self.assert_told(places_by, ("aaaa", [1, -2, HUGE], "aaa"), [0, 1, 2, 3])
        self.assert_told(places_by, ("abab", [2, 2], "aa"), [0, 2])
        self.assert_told(places_by, ("abab", [1, 2], "aa"), [1, 3])
        self.assert_told(places_by, ("abab", [1, 1], "aa"), [])
        self.assert_told(places_by, ("q", [5, -5], "qq"), [0])

    def test_signs_that_the_wheel_lacks(self):
        self.assert_told(places_by, ("abab", [0], "z"), [])
        self.assert_told(places_by, ("abab", [0, 1], "az"), [])
        self.assert_told(places_by, ("q", [0] * 80, "q" * 79 + "r"), [])

    def test_the_word_without_signs(self):
        for wheel in WHEELS:
            self.assert_told(places_by, (wheel, [], ""), list(range(len(wheel))))

    def test_what_was_struck_tells_all_places(self):
        for wheel in WHEELS:
            for turns in TURNS:
                words = [word_from(wheel, place, turns) for place in range(len(wheel))]
                self.assertEqual(words[0], struck(wheel, turns))
                for word in sorted(set(words)):
                    expected = [place for place, found in enumerate(words) if found == word]
                    self.assert_told(places_by, (wheel, turns, word), expected)

    def test_all_words_of_small_wheels(self):
        for wheel in ("a", "ab", "aab", "abca", "abab"):
            for turns in ([1], [0, 3], [-5, 2, 2]):
                for signs in itertools.product("abcd", repeat=len(turns)):
                    word = "".join(signs)
                    expected = [p for p in range(len(wheel)) if word_from(wheel, p, turns) == word]
                    self.assertEqual(places_by(wheel, turns, word), expected, (wheel, turns, word))

    def test_eighty_turns(self):
        for wheel in ("ab" * 15, "strikewheel", "a" * 29 + "b", ALPHABET):
            for low, high in ((0, 1), (-29, 29), (-HUGE, HUGE)):
                turns = jumble(80, low, high, len(wheel))
                for place in (0, 1, len(wheel) - 1):
                    word = word_from(wheel, place, turns)
                    expected = [p for p in range(len(wheel)) if word_from(wheel, p, turns) == word]
                    self.assertIn(place, expected)
                    self.assert_told(places_by, (wheel, turns, word), expected)

    def test_refusals_in_their_order(self):
        for text in NO_WHEELS + NO_TEXTS:
            for turns, word in (([1], "a"), ([1, 2], "a"), ([], "A"), ([1] * 81, "a" * 81), ([], "")):
                self.assert_refused(NoWheel, places_by, text, turns, word)
        for text in NO_WORDS + NO_TEXTS:
            for turns in ([], [1], [1] * 80, [1] * 81):
                self.assert_refused(NoWord, places_by, "ab", turns, text)
        for turns, word in (
            ([], "a"), ([1], ""), ([1], "ab"), ([1, 2], "a"), ([1] * 79, "a" * 80), ([1] * 80, "a" * 79), ([HUGE], ""),
            ([1] * 81, "a" * 80), ([1] * 200, "ab"), ([], "z"), ([1, 1], "z"),
        ):
            self.assert_refused(NoTurns, places_by, "ab", turns, word)
        for mark in NO_SIGNS + FOREIGN:
            for text in spoilt(mark):
                self.assert_refused(NoWheel, places_by, text, [1], "a")
                self.assert_refused(NoWord, places_by, "ab", [1], text)


class TellsApartTest(AskingTest):
    def test_by_hand(self):
        self.assert_told(tells_apart, ("abc", [0]), True)
        self.assert_told(tells_apart, ("abc", []), False)
        self.assert_told(tells_apart, ("aab", [0]), False)
        self.assert_told(tells_apart, ("aab", [0, 1]), True)
        self.assert_told(tells_apart, ("aab", [0, 3]), False)
        self.assert_told(tells_apart, ("abab", [0, 1, 1, 1]), False)

    def test_a_wheel_of_one_place(self):
        for turns in TURNS:
            self.assert_told(tells_apart, ("q", turns), True)

    def test_no_turns(self):
        for wheel in WHEELS:
            self.assert_told(tells_apart, (wheel, []), len(wheel) == 1)

    def test_against_each_two_places(self):
        for wheel in WHEELS + ["ab" * 15, "a" * 29 + "b", "mississippi"]:
            for turns in TURNS + [[1] * 29, [0] + [1] * 28, jumble(80, -HUGE, HUGE, 3), jumble(4, -9, 9, 5)]:
                self.assert_told(tells_apart, (wheel, turns), apart_by(wheel, turns))

    def test_all_turns_of_small_wheels(self):
        for wheel in ("ab", "aab", "abca", "aaab"):
            for count in range(4):
                for turns in itertools.product(range(-len(wheel), len(wheel) + 1), repeat=count):
                    self.assertIs(tells_apart(wheel, list(turns)), apart_by(wheel, turns), (wheel, turns))

    def test_just_where_all_words_tell_one_place(self):
        for wheel in WHEELS:
            for turns in TURNS:
                words = [word_from(wheel, place, turns) for place in range(len(wheel))]
                alone = all(places_by(wheel, turns, word) == [place] for place, word in enumerate(words))
                self.assertIs(tells_apart(wheel, turns), alone)

    def test_refusals(self):
        for text in NO_WHEELS + NO_TEXTS:
            for turns in TURNS:
                self.assert_refused(NoWheel, tells_apart, text, turns)
        for mark in NO_SIGNS + FOREIGN:
            for text in spoilt(mark):
                self.assert_refused(NoWheel, tells_apart, text, [1])


class FinderTest(AskingTest):
    def test_by_hand(self):
        self.assert_told(finder, ("q",), [])
        self.assert_told(finder, ("ab",), [0])
        self.assert_told(finder, ("aa",), None)
        self.assert_told(finder, ("abc",), [0])
        self.assert_told(finder, ("aab",), [0, 1])
        self.assert_told(finder, ("abab",), None)
        self.assert_told(finder, ("aabb",), [0, 1])
        self.assert_told(finder, ("aaab",), [0, 1, 1])
        self.assert_told(finder, ("abac",), [0, 1])

    def test_against_all_lists_of_turns(self):
        for count, signs in ((1, "abc"), (2, "abc"), (3, "abc"), (4, "abcd"), (5, "abc")):
            for wheel in itertools.product(signs, repeat=count):
                wheel = "".join(wheel)
                self.assertEqual(finder(wheel), first_by_all(wheel), wheel)
                self.assertEqual(finder(wheel), first_by_classes(wheel), wheel)

    def test_six_and_seven_places(self):
        for wheel in ("aaaaab", "aaaabb", "aababb", "aabaab", "ababab", "abcabc", "abcacb", "aaabbb", "abbcca"):
            self.assert_told(finder, (wheel,), first_by_all(wheel))
        for wheel in ("aaabbab", "aabbabc", "abcabca", "aaabbbc"):
            self.assert_told(finder, (wheel,), first_by_all(wheel))

    def test_greater_wheels(self):
        for wheel in (
            "aaaaabab", "aabbabab", "abcabcab", "aaabaaabb", "ababababc", "mississippi", "strikewheel", "aabbccaabb",
        ):
            self.assert_told(finder, (wheel,), first_by_classes(wheel))

    def test_twelve_places(self):
        self.assert_told(finder, ("a" * 11 + "b",), [0] + [1] * 10)
        self.assert_told(finder, ("abcdefghijkl",), [0])
        self.assert_told(finder, ("abababababac",), [0] + [1] * 9)
        for wheel in ["aabbaabbaabc", "aaaabbbbcccc"] + scrambled("ab", 6, 12, 3):
            self.assert_told(finder, (wheel,), first_by_classes(wheel))
        for wheel in ("a" * 12, "ab" * 6, "abc" * 4, "abbb" * 3, "aabbcd" * 2):
            self.assert_told(finder, (wheel,), None)

    def test_none_just_where_it_is_itself_turned(self):
        for count in range(1, 9):
            for signs in itertools.product("ab", repeat=count):
                wheel = "".join(signs)
                told = finder(wheel)
                self.assertIs(told is None, is_itself_turned(wheel), wheel)
                self.assertIs(told is None, any(turned(wheel, k) == wheel for k in range(1, count)))
                if told is not None:
                    self.assertLess(len(told), count)
                    self.assertTrue(apart_by(wheel, told))
                    self.assertIs(tells_apart(wheel, told), True)

    def test_too_many(self):
        for wheel in ("a" * 13, ALPHABET[:13], "ab" * 7, ALPHABET, "a" * 30, ALPHABET + "abcd"):
            self.assert_refused(TooMany, finder, wheel)

    def test_no_wheel_goes_first(self):
        for text in NO_WHEELS + NO_TEXTS + ["A" * 13, "a" * 12 + "-", "abcdefghijkl mnop"]:
            self.assert_refused(NoWheel, finder, text)
        for mark in NO_SIGNS + FOREIGN:
            for text in spoilt(mark):
                self.assert_refused(NoWheel, finder, text)


if __name__ == "__main__":
    unittest.main()
