"""Promise 25: strikers, their deeds, what is taken back, and what is told of them."""

import copy
import itertools
import unittest

from samples import FOREIGN, NO_SIGNS, NO_SLACKS, NO_TEXTS, NO_WHEELS, NO_WORDS
from samples import all_plans, jumble, kinds, price, scrambled, spoilt
from strikewheel.errors import Lacks, NoDeed, NoSlack, NoTurns, NoWheel, NoWord, WheelError
from strikewheel.least import least_cost, least_plan
from strikewheel.plans import cost, struck
from strikewheel.strikers import Striker

ALPHABET = "abcdefghijklmnopqrstuvwxyz"
HUGE = 10 ** 39


def way_of(turns):
    """Forth or back by the last turn that is not 0."""
    moving = [turn for turn in turns if turn != 0]
    if not moving:
        return 0
    return 1 if moving[-1] > 0 else -1


def told_by(striker):
    """All that a striker tells."""
    return (striker.stand(), striker.spent(), striker.text(), striker.turns())


def first_least(wheel, ahead, word, slack):
    """The first of all turns that strike the word behind others, at the least cost from there."""
    ways = all_plans(wheel, word, sum(ahead) % len(wheel))
    dear = [price(ahead + plan, slack) for plan in ways]
    return ways[dear.index(min(dear))]


class StrikerTest(unittest.TestCase):
    def assert_stands(self, striker, wheel, slack, deeds):
        """The striker tells what these deeds make, in values of the told kinds."""
        turns = [turn for deed in deeds for turn in deed]
        expected = ((sum(turns) % len(wheel), way_of(turns)), price(turns, slack), struck(wheel, turns), turns)
        self.assertEqual(told_by(striker), expected)
        self.assertEqual(kinds(told_by(striker)), kinds(expected))

    def assert_refused(self, refusal, striker, deed, *handed):
        """The deed is refused by just this refusal, and changes nothing."""
        before = told_by(striker)
        kept = copy.deepcopy(handed)
        with self.assertRaises(refusal) as caught:
            deed(*handed)
        self.assertIs(type(caught.exception), refusal)
        self.assertEqual(told_by(striker), before)
        self.assertEqual((handed, kinds(handed)), (kept, kinds(kept)))


class MadeTest(StrikerTest):
    def test_at_first(self):
        for wheel in ("a", "ab", "strikewheel", "a" * 30, ALPHABET + "abcd"):
            for slack in range(10):
                striker = Striker(wheel, slack)
                self.assert_stands(striker, wheel, slack, [])
                self.assertEqual(striker.stand(), (0, 0))
                self.assertEqual(striker.turns(), [])

    def test_its_own_methods(self):
        for name in ("turn", "strike", "back", "stand", "spent", "text", "turns"):
            self.assertIn(name, vars(Striker))
            self.assertTrue(callable(vars(Striker)[name]))

    def test_no_wheel_goes_first(self):
        for text in NO_WHEELS + NO_TEXTS:
            for slack in (0, 9, -1, 10, HUGE):
                with self.assertRaises(NoWheel):
                    Striker(text, slack)
        for mark in NO_SIGNS + FOREIGN:
            for text in spoilt(mark):
                with self.assertRaises(NoWheel):
                    Striker(text, 0)

    def test_then_no_slack(self):
        for slack in NO_SLACKS + [True, False, None]:
            for wheel in ("a", "ab", "a" * 30):
                with self.assertRaises(NoSlack):
                    Striker(wheel, slack)


class TurnTest(StrikerTest):
    def test_forth_back_and_by_none(self):
        striker = Striker("abcde", 2)
        deeds = []
        for by, sign in ((1, "b"), (0, "b"), (-2, "e"), (4, "d"), (0, "d"), (-4, "e"), (3, "c"), (0, "c"), (2, "e")):
            self.assertEqual(striker.turn(by), sign)
            deeds.append([by])
            self.assert_stands(striker, "abcde", 2, deeds)
        self.assertEqual(striker.stand(), (4, 1))
        self.assertEqual(striker.spent(), 16 + 4 * 2)

    def test_none_at_first_has_no_way(self):
        striker = Striker("abc", 9)
        self.assertEqual(striker.turn(0), "a")
        self.assertEqual(striker.turn(0), "a")
        self.assertEqual(striker.stand(), (0, 0))
        self.assertEqual(striker.turn(-1), "c")
        self.assertEqual(striker.stand(), (2, -1))
        self.assertEqual(striker.spent(), 1)

    def test_slack_once_for_each_change(self):
        striker = Striker("abc", 9)
        for by, spent in ((1, 1), (0, 1), (-1, 11), (-1, 12), (0, 12), (0, 12), (1, 22), (-2, 33), (2, 44), (2, 46)):
            striker.turn(by)
            self.assertEqual(striker.spent(), spent)

    def test_every_turn_of_a_wheel(self):
        for wheel in ("a", "ab", "abc", "strikewheel", ALPHABET + "abcd"):
            count = len(wheel)
            for by in range(1 - count, count):
                striker = Striker(wheel, 3)
                self.assertEqual(striker.turn(by), wheel[by])
                self.assert_stands(striker, wheel, 3, [[by]])

    def test_a_round_and_more(self):
        for wheel in ("a", "ab", "abc", "strikewheel", ALPHABET + "abcd"):
            count = len(wheel)
            striker = Striker(wheel, 3)
            for ahead in ([], [0], [count - 1], [1 - count]):
                for by in ahead:
                    striker.turn(by)
                for by in (count, -count, count + 1, -count - 1, 2 * count, 99, -99, HUGE, -HUGE):
                    self.assert_refused(NoTurns, striker, striker.turn, by)
        striker = Striker("q", 0)
        self.assertEqual(striker.turn(0), "q")
        self.assert_refused(NoTurns, striker, striker.turn, 1)
        self.assert_refused(NoTurns, striker, striker.turn, -1)

    def test_what_is_no_whole_number(self):
        striker = Striker("abc", 0)
        for thing in (True, False, None, "1", [1], (1,)):
            self.assert_refused(NoTurns, striker, striker.turn, thing)


class StrikeTest(StrikerTest):
    def test_by_hand(self):
        striker = Striker("abcd", 2)
        self.assertEqual(striker.strike("b"), [1])
        # Back costs 1 and the slack, forth 3: the first of both.
        self.assertEqual(striker.strike("a"), [-1])
        self.assertEqual(striker.spent(), 4)
        striker.back()
        self.assertEqual(striker.spent(), 1)
        self.assertEqual(striker.stand(), (1, 1))
        striker = Striker("abcd", 3)
        striker.turn(1)
        # Back would cost 1 and the slack, so it goes forth.
        self.assertEqual(striker.strike("a"), [3])
        self.assertEqual(striker.spent(), 4)

    def test_the_slack_behind_turns_by_none(self):
        striker = Striker("abcd", 3)
        striker.turn(1)
        striker.turn(0)
        self.assertEqual(striker.strike("ba"), [0, 3])
        self.assertEqual(striker.spent(), 4)
        striker = Striker("abcd", 3)
        self.assertEqual(striker.strike("a"), [0])
        self.assertEqual(striker.strike("d"), [-1])

    def test_the_first_of_several(self):
        self.assertEqual(Striker("abcd", 0).strike("c"), [-2])
        self.assertEqual(Striker("abab", 0).strike("b"), [-1])
        striker = Striker("abcd", 2)
        striker.turn(1)
        self.assertEqual(striker.strike("a"), [-1])
        self.assertEqual(striker.spent(), 4)

    def test_from_any_stand_with_any_way(self):
        for wheel in ("a", "ab", "abc", "aab", "abcd", "abac"):
            count = len(wheel)
            signs = sorted(set(wheel))
            words = ["".join(word) for most in range(4) for word in itertools.product(signs, repeat=most)]
            # Every place by either way, place 0 too, and without way at first.
            starts = [[], [0]] + [[by] for by in range(1 - count, count) if by]
            starts += [[1 - count, count - 1, 0], [count - 1, 1 - count]]
            for ahead in starts:
                for slack in (0, 1, 2, 5, 9):
                    for word in words:
                        self.assert_strike(wheel, slack, ahead, word)

    def assert_strike(self, wheel, slack, ahead, word):
        striker = Striker(wheel, slack)
        for by in ahead:
            striker.turn(by)
        expected = first_least(wheel, ahead, word, slack)
        self.assertEqual(striker.strike(word), expected, (wheel, slack, ahead, word))
        self.assert_stands(striker, wheel, slack, [ahead, expected])

    def test_from_some_stands_of_greater_wheels(self):
        for wheel, word in (("abcdef", "fcb"), ("aabbcc", "cab"), ("abcabcd", "dca"), ("strikewh", "kit")):
            for place in range(len(wheel)):
                for back in (0, len(wheel)):
                    if place - back in range(1 - len(wheel), len(wheel)):
                        for slack in (0, 1, 3, 9):
                            self.assert_strike(wheel, slack, [place - back], word)

    def test_the_first_word_as_a_least_plan(self):
        for wheel in ("strikewheel", ALPHABET + "abcd", "ab" * 15, "q"):
            for slack in (0, 1, 4, 9):
                for word in scrambled(sorted(set(wheel)), 2, 80, slack) + ["", wheel[::-1]]:
                    striker = Striker(wheel, slack)
                    plan = striker.strike(word)
                    self.assertEqual(plan, least_plan(wheel, word, slack))
                    self.assert_stands(striker, wheel, slack, [plan])
                    self.assertEqual(striker.spent(), least_cost(wheel, word, slack))
                    self.assertEqual(striker.text(), word)

    def test_the_word_without_signs(self):
        striker = Striker("abc", 4)
        self.assertEqual(striker.strike(""), [])
        self.assert_stands(striker, "abc", 4, [])
        striker.turn(2)
        self.assertEqual(striker.strike(""), [])
        self.assert_stands(striker, "abc", 4, [[2]])
        # It is a deed, so it is what is taken back.
        striker.back()
        self.assert_stands(striker, "abc", 4, [[2]])
        striker.back()
        self.assert_stands(striker, "abc", 4, [])
        striker.back()
        self.assert_refused(NoDeed, striker, striker.back)

    def test_no_word_then_lacks(self):
        striker = Striker("abc", 1)
        for ahead in ("", "cab", "b"):
            striker.strike(ahead)
            for text in NO_WORDS + NO_TEXTS:
                self.assert_refused(NoWord, striker, striker.strike, text)
            for mark in NO_SIGNS + FOREIGN:
                for text in spoilt(mark):
                    self.assert_refused(NoWord, striker, striker.strike, text)
            for text in ("zZ", "d" * 81, "-z"):
                self.assert_refused(NoWord, striker, striker.strike, text)
            for word in ("d", "abd", "dab", "adb", "z" * 80, "abc" * 26 + "d"):
                self.assert_refused(Lacks, striker, striker.strike, word)

    def test_words_in_parts_cost_no_less(self):
        for wheel in ("abc", "abac", "strikewheel", "aabbcc", "etaoinshrdlu"):
            for slack in (0, 1, 3, 9):
                for word in scrambled(sorted(set(wheel)), 3, 12, slack + 1):
                    whole = least_cost(wheel, word, slack)
                    for size in (1, 2, 3, 5, 11, 12):
                        striker = Striker(wheel, slack)
                        for at in range(0, len(word), size):
                            striker.strike(word[at:at + size])
                        self.assertEqual(striker.text(), word)
                        self.assertGreaterEqual(striker.spent(), whole, (wheel, word, size))
                        if size == 12:
                            self.assertEqual(striker.spent(), whole)

    def test_parts_may_cost_more(self):
        striker = Striker("abcab", 0)
        striker.strike("b")
        striker.strike("c")
        self.assertEqual(striker.turns(), [-1, -2])
        self.assertEqual(least_plan("abcab", "bc", 0), [1, 1])


class BackTest(StrikerTest):
    def test_with_no_deed(self):
        striker = Striker("abc", 1)
        self.assert_refused(NoDeed, striker, striker.back)
        striker.turn(1)
        self.assertIs(striker.back(), None)
        self.assert_stands(striker, "abc", 1, [])
        self.assert_refused(NoDeed, striker, striker.back)
        striker.strike("cab")
        self.assertIs(striker.back(), None)
        self.assert_refused(NoDeed, striker, striker.back)

    def test_with_no_deed_but_refused_ones(self):
        striker = Striker("abc", 1)
        self.assert_refused(NoTurns, striker, striker.turn, 3)
        self.assert_refused(NoWord, striker, striker.strike, "A")
        self.assert_refused(Lacks, striker, striker.strike, "z")
        self.assert_refused(NoDeed, striker, striker.back)

    def test_a_word_with_all_its_turns(self):
        striker = Striker("abcd", 2)
        striker.turn(1)
        plan = striker.strike("dcad")
        self.assert_stands(striker, "abcd", 2, [[1], plan])
        striker.back()
        self.assert_stands(striker, "abcd", 2, [[1]])
        self.assertEqual(striker.strike("dcad"), plan)

    def test_refused_deeds_are_not_taken_back(self):
        striker = Striker("abcd", 2)
        striker.turn(1)
        striker.turn(2)
        self.assert_refused(NoTurns, striker, striker.turn, 4)
        self.assert_refused(Lacks, striker, striker.strike, "z")
        striker.back()
        self.assert_stands(striker, "abcd", 2, [[1]])

    def test_the_way_taken_back(self):
        striker = Striker("abcd", 5)
        striker.turn(1)
        striker.turn(-1)
        self.assertEqual((striker.stand(), striker.spent()), ((0, -1), 7))
        striker.back()
        self.assertEqual((striker.stand(), striker.spent()), ((1, 1), 1))
        striker.back()
        self.assertEqual((striker.stand(), striker.spent()), ((0, 0), 0))
        striker.turn(-1)
        self.assertEqual((striker.stand(), striker.spent()), ((3, -1), 1))

    def test_all_deeds_taken_back_one_by_one(self):
        for wheel, slack in (("abcde", 3), ("aabbc", 0), ("q", 9), ("strikewheel", 9)):
            striker = Striker(wheel, slack)
            deeds = []
            self.do_many(striker, wheel, slack, deeds, 40)
            while deeds:
                striker.back()
                deeds.pop()
                self.assert_stands(striker, wheel, slack, deeds)
            self.assert_refused(NoDeed, striker, striker.back)

    def do_many(self, striker, wheel, slack, deeds, many):
        """Turn and strike so often, and look at the striker behind each deed."""
        words = scrambled(sorted(set(wheel)), many, 3, many)
        for number, by in enumerate(jumble(many, 1 - len(wheel), len(wheel) - 1, many)):
            if number % 3 == 2:
                word = words[number][:number % 4]
                deeds.append(striker.strike(word))
                self.assertTrue(striker.text().endswith(word))
                self.assertEqual(len(deeds[-1]), len(word))
            else:
                self.assertEqual(striker.turn(by), striker.text()[-1])
                deeds.append([by])
            self.assert_stands(striker, wheel, slack, deeds)


class ManyDeedsTest(StrikerTest):
    def test_two_thousand_deeds(self):
        wheel = "strikewheel"
        striker = Striker(wheel, 4)
        deeds = []
        refused = 0
        for number, by in enumerate(jumble(2000, -14, 14, 7)):
            if number % 5 == 4 and deeds:
                striker.back()
                deeds.pop()
            elif number % 7 == 3:
                deeds.append(striker.strike("wrike"[:number % 6]))
            elif abs(by) < len(wheel):
                striker.turn(by)
                deeds.append([by])
            else:
                refused += 1
                with self.assertRaises(NoTurns):
                    striker.turn(by)
            if number % 40 == 0:
                self.assert_stands(striker, wheel, 4, deeds)
        self.assert_stands(striker, wheel, 4, deeds)
        self.assertGreater(len(deeds), 400)
        self.assertGreater(refused, 100)
        while deeds:
            striker.back()
            deeds.pop()
            if len(deeds) % 40 == 0:
                self.assert_stands(striker, wheel, 4, deeds)
        self.assert_refused(NoDeed, striker, striker.back)

    def test_words_of_eighty_signs(self):
        wheel = ALPHABET + "abcd"
        striker = Striker(wheel, 1)
        words = scrambled(ALPHABET, 400, 80, 1)
        turns = [turn for word in words for turn in striker.strike(word)]
        self.assertEqual(striker.text(), "".join(words))
        self.assertEqual(striker.turns(), turns)
        self.assertEqual(striker.spent(), cost(turns, 1))
        self.assertEqual(striker.stand(), (sum(turns) % 30, way_of(turns)))


class OwnTest(StrikerTest):
    def test_two_strikers_side_by_side(self):
        one = Striker("abcd", 1)
        other = Striker("abcd", 9)
        third = Striker("dcba", 1)
        one.turn(1)
        self.assert_stands(other, "abcd", 9, [])
        other.strike("dab")
        third.turn(-3)
        self.assert_stands(one, "abcd", 1, [[1]])
        one.strike("ca")
        third.back()
        self.assert_stands(other, "abcd", 9, [[3, 1, 1]])
        self.assert_stands(third, "dcba", 1, [])
        self.assert_stands(one, "abcd", 1, [[1], [1, 2]])
        one.back()
        one.back()
        self.assert_refused(NoDeed, one, one.back)
        self.assert_stands(other, "abcd", 9, [[3, 1, 1]])

    def test_lists_are_the_askers_own(self):
        striker = Striker("abcd", 1)
        plan = striker.strike("dab")
        kept = list(plan)
        self.assertEqual(striker.turns(), kept)
        plan.append(99)
        self.assertEqual(striker.turns(), kept)
        told = striker.turns()
        again = striker.turns()
        self.assertIsNot(told, again)
        self.assertIsNot(told, plan)
        told.clear()
        again.append(7)
        self.assertEqual(striker.turns(), kept)
        self.assertEqual((striker.text(), striker.spent()), ("dab", price(kept, 1)))
        striker.back()
        self.assert_stands(striker, "abcd", 1, [])
        nothing = striker.turns()
        nothing.append(1)
        self.assertEqual(striker.turns(), [])
        empty = striker.strike("")
        empty.append(1)
        self.assert_stands(striker, "abcd", 1, [])

    def test_asking_changes_nothing(self):
        striker = Striker("abcd", 1)
        striker.strike("cb")
        before = told_by(striker)
        for ask in (striker.turns, striker.text, striker.spent, striker.stand) * 3:
            ask()
        self.assertEqual(told_by(striker), before)

    def test_the_same_deeds_make_the_same(self):
        def done():
            striker = Striker("strikewheel", 2)
            striker.strike("wheel")
            striker.turn(-3)
            try:
                striker.turn(11)
            except WheelError:
                pass
            striker.strike("strike")
            striker.back()
            striker.strike("kit")
            return told_by(striker)
        self.assertEqual(done(), done())


if __name__ == "__main__":
    unittest.main()
