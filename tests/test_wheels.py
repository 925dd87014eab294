"""Promises 5 to 7: wheels, and how they look turned and in the glass."""

import copy
import itertools
import string
import unittest

from samples import FOREIGN, NO_SIGNS, NO_TEXTS, NO_WHEELS, spoilt
from strikewheel.errors import NoWheel
from strikewheel.wheels import (
    how_led, in_glass, is_wheel, kin_form, least_form, places_of, turned,
)

# All wheels of few places and signs, where every case that can be is.
SMALL = [
    "".join(signs)
    for count in range(1, 6)
    for signs in itertools.product("abc", repeat=count)
]
LARGE = [
    "strikewheel", "abcdefghij", "zyxwvutsrqponmlkjihgfedcba", "mississippi",
    "aab" * 5 + "aba", "bcdab" * 6, "b" * 29 + "a", "a" * 29 + "b",
    (string.ascii_lowercase + "abcd"),
]
PIECES = ["ab" * 15, "ba" * 15, "cab" * 10, "bbab" * 7, "z" * 30, "acb" * 4, "dbcadbca"]


def walk(wheel, place, steps):
    """Return the sign so many single steps on from a place (back, below 0)."""
    for unused in range(abs(steps)):
        place += 1 if steps > 0 else -1
        if place == len(wheel):
            place = 0
        if place < 0:
            place = len(wheel) - 1
    return wheel[place]


def walked(wheel, k):
    """The wheel turned by k, sign by sign as the document tells it."""
    return "".join(walk(wheel, 0, place + k) for place in range(len(wheel)))


def mirrored(wheel):
    """The wheel in the glass, sign by sign as the document tells it."""
    return "".join(walk(wheel, 0, -place) for place in range(len(wheel)))


def rounds(wheel):
    """All turned wheels, from k of 0 on."""
    return [walked(wheel, k) for k in range(len(wheel))]


def led(wheel, other):
    """How a wheel is led to another, gone through in the told order."""
    for glass, start in ((False, wheel), (True, mirrored(wheel))):
        for k, form in enumerate(rounds(start)):
            if form == other:
                return (glass, k)
    return None


class IsWheelTest(unittest.TestCase):
    def assert_told(self, thing, expected):
        with self.subTest(thing=thing):
            self.assertIs(is_wheel(thing), expected)

    def test_counts_of_places(self):
        self.assert_told("", False)
        for count in range(1, 31):
            self.assert_told("q" * count, True)
        for count in (31, 32, 60, 80, 81, 4000):
            self.assert_told("q" * count, False)

    def test_each_small_letter(self):
        for sign in string.ascii_lowercase:
            self.assert_told(sign, True)

    def test_unlike_and_repeated_signs(self):
        for wheel in SMALL + LARGE + PIECES:
            self.assert_told(wheel, True)

    def test_marks_that_are_no_signs(self):
        for mark in NO_SIGNS + FOREIGN:
            for text in spoilt(mark):
                self.assert_told(text, False)

    def test_a_mark_in_a_full_length_text(self):
        for mark in ("A", "5", " ", "-", "\n"):
            self.assert_told(mark + "a" * 29, False)
            self.assert_told("a" * 15 + mark + "a" * 14, False)
            self.assert_told("a" * 29 + mark, False)
            self.assert_told("a" * 30 + mark, False)

    def test_what_is_no_text(self):
        for thing in NO_TEXTS:
            self.assert_told(thing, False)

    def test_nothing_is_changed_and_the_answer_stays(self):
        for thing in NO_TEXTS + ["", "abc", "aBc", "a" * 31]:
            with self.subTest(thing=thing):
                before = copy.deepcopy(thing)
                self.assertIs(is_wheel(thing), is_wheel(thing))
                self.assertEqual(thing, before)


class PlacesOfTest(unittest.TestCase):
    def test_once_often_never(self):
        self.assertEqual(places_of("abcab", "c"), [2])
        self.assertEqual(places_of("abcab", "a"), [0, 3])
        self.assertEqual(places_of("abcab", "b"), [1, 4])
        self.assertEqual(places_of("abcab", "d"), [])
        self.assertEqual(places_of("a", "a"), [0])
        self.assertEqual(places_of("z" * 30, "z"), list(range(30)))

    def test_each_place_is_told_under_its_sign_alone(self):
        for wheel in LARGE + PIECES:
            for sign in string.ascii_lowercase:
                with self.subTest(wheel=wheel, sign=sign):
                    places = [p for p in range(len(wheel)) if walk(wheel, 0, p) == sign]
                    self.assertEqual(places_of(wheel, sign), places)

    def test_texts_that_are_no_sign(self):
        for text in ("", "ab", "abcab", "aa", "A", " ", "1", "\n", "a\n", " a", "a" * 31, "a" * 4000):
            for wheel in ("abcab", "a", "aa", "ab" * 15):
                with self.subTest(wheel=wheel, text=text):
                    self.assertEqual(places_of(wheel, text), [])

    def test_the_list_is_the_askers_own(self):
        for sign in ("a", "d", "ab"):
            with self.subTest(sign=sign):
                first = places_of("abcab", sign)
                told = list(first)
                second = places_of("abcab", sign)
                self.assertIs(type(first), list)
                self.assertIsNot(first, second)
                first.append(99)
                self.assertEqual(second, told)
                self.assertEqual(places_of("abcab", sign), told)


class TurnedTest(unittest.TestCase):
    def test_by_hand(self):
        for k, expected in (
            (0, "abcd"), (1, "bcda"), (2, "cdab"), (3, "dabc"), (4, "abcd"), (5, "bcda"),
            (-1, "dabc"), (-2, "cdab"), (-3, "bcda"), (-4, "abcd"), (-5, "dabc"),
        ):
            with self.subTest(k=k):
                self.assertEqual(turned("abcd", k), expected)

    def test_sign_by_sign_over_several_rounds(self):
        for wheel in ["a", "ab", "aab"] + LARGE + PIECES:
            for k in range(-2 * len(wheel) - 1, 2 * len(wheel) + 2):
                with self.subTest(wheel=wheel, k=k):
                    self.assertEqual(turned(wheel, k), walked(wheel, k))

    def test_numbers_of_forty_figures(self):
        # 10 is the wheel's count of places, so the last figure alone counts.
        wheel = "abcdefghij"
        self.assertEqual(turned(wheel, 10 ** 39), wheel)
        self.assertEqual(turned(wheel, -(10 ** 39)), wheel)
        self.assertEqual(turned(wheel, 10 ** 39 + 3), "defghijabc")
        self.assertEqual(turned(wheel, -(10 ** 39) - 3), "hijabcdefg")
        self.assertEqual(turned(wheel, 10 ** 40 - 1), "jabcdefghi")
        self.assertEqual(turned(wheel, 1 - 10 ** 40), "bcdefghija")

    def test_great_numbers_leave_what_full_rounds_leave(self):
        for wheel in LARGE + PIECES + ["a", "ab"]:
            for great in (10 ** 9 + 7, 2 ** 64 + 1, 10 ** 39 + 11, 10 ** 40 - 1):
                for k in (great, -great):
                    with self.subTest(wheel=wheel, k=k):
                        self.assertEqual(turned(wheel, k), walked(wheel, k - k // len(wheel) * len(wheel)))

    def test_turned_twice_is_turned_by_the_sum(self):
        for wheel in LARGE:
            for k, more in ((3, 5), (-3, 5), (7, -7), (10 ** 39, 1 - 10 ** 39)):
                with self.subTest(wheel=wheel, k=k, more=more):
                    self.assertEqual(turned(turned(wheel, k), more), walked(wheel, k + more))


class InGlassTest(unittest.TestCase):
    def test_by_hand(self):
        for wheel, expected in (
            ("a", "a"), ("ab", "ab"), ("ba", "ba"), ("aa", "aa"), ("abc", "acb"),
            ("abcd", "adcb"), ("aab", "aba"), ("strikewheel", "sleehwekirt"),
        ):
            with self.subTest(wheel=wheel):
                self.assertEqual(in_glass(wheel), expected)

    def test_sign_by_sign(self):
        for wheel in SMALL + LARGE + PIECES:
            with self.subTest(wheel=wheel):
                self.assertEqual(in_glass(wheel), mirrored(wheel))

    def test_twice_is_the_wheel_itself(self):
        for wheel in SMALL + LARGE + PIECES:
            with self.subTest(wheel=wheel):
                self.assertEqual(in_glass(in_glass(wheel)), wheel)

    def test_turned_and_in_the_glass_together(self):
        self.assertEqual(in_glass(turned("abcd", 1)), "badc")
        self.assertEqual(turned(in_glass("abcd"), 1), "dcba")
        for wheel in LARGE + PIECES + ["a", "ab", "abc"]:
            for k in (0, 1, -1, 2, 5, len(wheel), -len(wheel), 10 ** 39 + 1, -(10 ** 39) - 1):
                with self.subTest(wheel=wheel, k=k):
                    self.assertEqual(in_glass(turned(wheel, k)), turned(in_glass(wheel), -k))
                    self.assertEqual(in_glass(turned(in_glass(wheel), k)), turned(wheel, -k))


class FormsTest(unittest.TestCase):
    def test_by_hand(self):
        for wheel, least, kin in (
            ("a", "a", "a"), ("ba", "ab", "ab"), ("acb", "acb", "abc"), ("bab", "abb", "abb"),
            ("cba", "acb", "abc"), ("dcba", "adcb", "abcd"), ("b" * 29 + "a", "a" + "b" * 29, "a" + "b" * 29),
            ("baba", "abab", "abab"), ("cbacba", "acbacb", "abcabc"), ("z" * 30, "z" * 30, "z" * 30),
        ):
            with self.subTest(wheel=wheel):
                self.assertEqual(least_form(wheel), least)
                self.assertEqual(kin_form(wheel), kin)

    def test_against_all_gone_through(self):
        for wheel in SMALL + LARGE + PIECES:
            with self.subTest(wheel=wheel):
                self.assertEqual(least_form(wheel), sorted(rounds(wheel))[0])
                self.assertEqual(kin_form(wheel), sorted(rounds(wheel) + rounds(mirrored(wheel)))[0])

    def test_all_that_are_alike_have_the_same_forms(self):
        for wheel in LARGE + PIECES:
            for form in rounds(wheel):
                self.assertEqual(least_form(form), least_form(wheel))
                self.assertEqual(kin_form(form), kin_form(wheel))
                self.assertEqual(kin_form(mirrored(form)), kin_form(wheel))


class HowLedTest(unittest.TestCase):
    def assert_led(self, wheel, other, expected):
        with self.subTest(wheel=wheel, other=other):
            found = how_led(wheel, other)
            self.assertEqual(found, expected)
            if found is not None:
                # (True, 1) equals (1, True), so the kinds are looked at too.
                self.assertEqual([type(part) for part in found], [bool, int])
                self.assertIs(type(found), tuple)

    def test_by_turning(self):
        self.assert_led("a", "a", (False, 0))
        self.assert_led("abc", "abc", (False, 0))
        self.assert_led("abc", "bca", (False, 1))
        self.assert_led("abc", "cab", (False, 2))
        self.assert_led("abcd", "dabc", (False, 3))

    def test_the_least_k_of_a_piece_told_again(self):
        self.assert_led("z" * 30, "z" * 30, (False, 0))
        self.assert_led("abab", "baba", (False, 1))
        self.assert_led("abc" * 10, "cab" * 10, (False, 2))
        self.assert_led("abcabc", "acbacb", (True, 0))
        self.assert_led("abcabc", "cbacba", (True, 1))
        self.assert_led("abcabc", "bacbac", (True, 2))

    def test_by_the_glass_where_no_turning_does(self):
        self.assert_led("abc", "acb", (True, 0))
        self.assert_led("abc", "cba", (True, 1))
        self.assert_led("abc", "bac", (True, 2))
        self.assert_led("abcd", "adcb", (True, 0))
        self.assert_led("abcd", "badc", (True, 3))

    def test_turning_goes_first_where_both_do(self):
        self.assert_led("ab", "ba", (False, 1))
        self.assert_led("aab", "aba", (False, 1))
        self.assert_led("aab", "baa", (False, 2))
        self.assert_led("abcb", "bcba", (False, 1))
        self.assert_led("abcb", "babc", (False, 3))

    def test_none(self):
        self.assert_led("a", "b", None)
        self.assert_led("abc", "abd", None)
        self.assert_led("aabb", "abab", None)
        self.assert_led("abcd", "acbd", None)

    def test_unlike_counts_of_places(self):
        self.assert_led("a", "aa", None)
        self.assert_led("aa", "a", None)
        self.assert_led("ab", "abab", None)
        self.assert_led("abab", "ab", None)
        self.assert_led("abc", "bc", None)
        self.assert_led("z" * 29, "z" * 30, None)

    def test_all_small_wheels(self):
        small = [wheel for wheel in SMALL if len(wheel) < 5]
        for wheel in small:
            for other in small:
                self.assert_led(wheel, other, led(wheel, other))

    def test_large_wheels_and_all_that_are_alike(self):
        for wheel in LARGE + PIECES:
            for other in rounds(wheel) + rounds(mirrored(wheel)):
                self.assert_led(wheel, other, led(wheel, other))

    def test_what_is_told_leads_there(self):
        for wheel in LARGE + PIECES:
            for other in rounds(wheel) + rounds(mirrored(wheel)):
                with self.subTest(wheel=wheel, other=other):
                    glass, k = how_led(wheel, other)
                    self.assertEqual(turned(in_glass(wheel) if glass else wheel, k), other)


class RefusalTest(unittest.TestCase):
    def assert_refused(self, deed, *handed):
        with self.subTest(deed=deed.__name__, handed=handed):
            with self.assertRaises(NoWheel) as caught:
                deed(*handed)
            self.assertIs(type(caught.exception), NoWheel)

    def test_places_of(self):
        for text in NO_WHEELS:
            for sign in ("a", "d", "", "ab"):
                self.assert_refused(places_of, text, sign)

    def test_turned(self):
        for text in NO_WHEELS:
            for k in (0, 1, -1, 31, 10 ** 39):
                self.assert_refused(turned, text, k)

    def test_of_one_wheel(self):
        for text in NO_WHEELS:
            for deed in (in_glass, least_form, kin_form):
                self.assert_refused(deed, text)

    def test_how_led(self):
        for text in NO_WHEELS:
            self.assert_refused(how_led, text, "ab")
            self.assert_refused(how_led, "ab", text)
            self.assert_refused(how_led, text, text)
            self.assert_refused(how_led, text, "")

    def test_every_mark_that_is_no_sign(self):
        for mark in NO_SIGNS + FOREIGN:
            for text in spoilt(mark):
                self.assert_refused(in_glass, text)
                self.assert_refused(turned, text, 1)

    def test_what_is_refused_changes_no_later_answer(self):
        before = (places_of("abab", "a"), turned("abc", 1), how_led("abc", "cba"))
        self.assert_refused(how_led, "abc", "")
        self.assertEqual((places_of("abab", "a"), turned("abc", 1), how_led("abc", "cba")), before)


if __name__ == "__main__":
    unittest.main()
