"""Promises 2 and 3 over the whole program, and the interface."""

import copy
import importlib
import inspect
import itertools
import unittest

from samples import joint_price, jumble, kinds, lists_in, price, scrambled
from strikewheel.bank import is_bank, joint_cost, joint_many, joint_plan
from strikewheel.bars import bar_table, best_bar
from strikewheel.books import cut, halves, pairs_of, reach, signs_of, spread
from strikewheel.desk import Desk
from strikewheel.errors import WheelError
from strikewheel.heads import heads_cost, heads_many, heads_plan, near_plan
from strikewheel.least import best_start, cost_from, least_cost, least_plan, many_least, table
from strikewheel.lost import finder, places_by, tells_apart
from strikewheel.more import best_more
from strikewheel.orders import best_order, fair_order, floor_of, least_half
from strikewheel.papers import floor_by, let_by
from strikewheel.plans import cost, is_plan, struck
from strikewheel.signs import is_word
from strikewheel.slips import least_slips, many_slips, seen
from strikewheel.strikers import Striker
from strikewheel.texts import read_turns, show_turns
from strikewheel.wheels import how_led, in_glass, is_wheel, kin_form, least_form, places_of, turned

BOOK = ["abca", "bdb", "", "cabd", "aa"]
PAPER = [[(0, 0, 0)], [(2, -1, 1), (2, 1, 2)], [(0, -1, 3), (0, 1, 3)], [(1, -1, 4), (1, 1, 4)]]

# Functions of all modules, and what they are handed.
QUESTIONS = [
    (is_word, "strike"), (is_word, ["a", ("b", [None])]),
    (is_wheel, "abc"), (is_wheel, [["abc"]]), (places_of, "abcab", "a"), (turned, "abcd", -3), (in_glass, "abcd"),
    (least_form, "cab"), (kin_form, "acb"), (how_led, "abc", "cba"), (how_led, "abc", "abd"),
    (struck, "abc", [2, 1, -10 ** 39]), (is_plan, "abc", "cab", [2, 1, 1]), (cost, [1, 0, -1, 5], 3),
    (table, "abcab", "cabb", 2), (table, "abc", "", 0), (least_cost, "abcab", "cabb", 2),
    (least_plan, "abcab", "cabb", 2),
    (many_least, "abcab", "cabb", 2), (cost_from, "abcab", "cabb", 2, 3), (best_start, "abcab", "cabb", 2),
    (let_by, "abc", "cab", 2, PAPER), (floor_by, "abc", "cab", 2, PAPER), (floor_by, "abc", "cab", 2, [[]]),
    (signs_of, BOOK), (pairs_of, BOOK), (reach, BOOK, "dcba"), (spread, BOOK, "dcba"), (cut, BOOK, "xab"),
    (halves, BOOK, "dacb"), (least_half, BOOK), (floor_of, BOOK), (best_order, BOOK), (fair_order, BOOK),
    (bar_table, BOOK), (best_bar, BOOK),
    (is_bank, ["abc", "ab"]), (joint_cost, ["abc", "db"], "cadb"), (joint_plan, ["abc", "db"], "cadb"),
    (joint_many, ["abc", "db"], "cadb"),
    (seen, "aab", [0, 1, 5], [(0, 1), (2, 2)]), (least_slips, "aab", [0, 1, 5], "aba"),
    (many_slips, "aab", [0, 1, 5], "aba"),
    (places_by, "abcab", [0, 1], "ab"), (tells_apart, "abcab", [0, 2]), (finder, "abcab"), (finder, "abab"),
    (finder, "a"),
    (best_more, "abc", "cad", 1), (heads_cost, "abcd", [0, 2], "cabd"), (heads_plan, "abcd", [0, 2], "cabd"),
    (heads_many, "abcd", [0, 2], "cabd"), (near_plan, "abcd", [0, 2], "cabd"), (near_plan, "abcd", [3], ""),
    (show_turns, [1, -2, 0]), (show_turns, []), (read_turns, "1 -2 0"), (read_turns, "none"),
    (least_plan, "abc", "", 0), (joint_plan, ["abc"], ""), (least_slips, "abc", [], ""), (places_of, "abc", "z"),
    (pairs_of, []), (halves, [], ""), (places_by, "ab", [0], "z"),
]

# What is refused changes nothing, so these are asked in between.
REFUSED = [
    (turned, "A", 1), (struck, "", [1]), (least_plan, "abc", "z", 0), (table, "abc", "a", 10),
    (cost_from, "ab", "a", 0, 2),
    (reach, BOOK, "abc"), (best_order, []), (bar_table, ["A"]), (joint_plan, [], "a"), (least_slips, "ab", [1], "ab"),
    (places_by, "ab", [1, 2], "a"), (finder, "a" * 13), (best_more, "ab", "", 0), (heads_plan, "ab", [2], "a"),
    (read_turns, "01"), (let_by, "ab", "c", 0, PAPER),
]

INTERFACE = {
    "signs": {"is_word": 1},
    "wheels": {
        "is_wheel": 1, "places_of": 2, "turned": 2, "in_glass": 1, "least_form": 1, "kin_form": 1, "how_led": 2,
    },
    "plans": {"struck": 2, "is_plan": 3, "cost": 2},
    "least": {"table": 3, "least_cost": 3, "least_plan": 3, "many_least": 3, "cost_from": 4, "best_start": 3},
    "papers": {"let_by": 4, "floor_by": 4},
    "books": {"signs_of": 1, "pairs_of": 1, "reach": 2, "spread": 2, "cut": 2, "halves": 2},
    "orders": {"least_half": 1, "floor_of": 1, "best_order": 1, "fair_order": 1},
    "bars": {"bar_table": 1, "best_bar": 1},
    "bank": {"is_bank": 1, "joint_cost": 2, "joint_plan": 2, "joint_many": 2},
    "slips": {"seen": 3, "least_slips": 3, "many_slips": 3}, "lost": {"places_by": 3, "tells_apart": 2, "finder": 1},
    "more": {"best_more": 3},
    "heads": {"heads_cost": 3, "heads_plan": 3, "near_plan": 3, "heads_many": 3},
    "texts": {"show_turns": 1, "read_turns": 1},
}

CLASSES = {
    ("strikers", "Striker", 2): {"turn": 1, "strike": 1, "back": 0, "stand": 0, "spent": 0, "text": 0, "turns": 0},
    ("desk", "Desk", 0): {"say": 1},
}


def ask(question):
    """Ask a question with what it hands in copied, so that each asking stands alone."""
    return question[0](*copy.deepcopy(question[1:]))


def ask_refused(question):
    """Ask a question that is refused."""
    try:
        ask(question)
    except WheelError:
        return
    raise AssertionError(question)


class InterfaceTest(unittest.TestCase):
    def test_functions(self):
        for module, functions in INTERFACE.items():
            found = importlib.import_module("strikewheel." + module)
            for name, count in functions.items():
                with self.subTest(module=module, name=name):
                    function = getattr(found, name)
                    self.assertEqual(function.__module__, "strikewheel." + module)
                    self.assertEqual(len(inspect.signature(function).parameters), count)

    def test_classes(self):
        for (module, name, count), methods in CLASSES.items():
            found = getattr(importlib.import_module("strikewheel." + module), name)
            self.assertEqual(len(inspect.signature(found).parameters), count)
            for method, handed in methods.items():
                with self.subTest(name=name, method=method):
                    self.assertEqual(len(inspect.signature(vars(found)[method]).parameters), handed + 1)

    def test_all_functions_are_asked_here(self):
        asked = {question[0].__name__ for question in QUESTIONS}
        self.assertEqual(asked, {name for functions in INTERFACE.values() for name in functions})


class QuestionsTest(unittest.TestCase):
    def test_in_different_orders(self):
        first = [ask(question) for question in QUESTIONS]
        kept = copy.deepcopy(first)
        count = len(QUESTIONS)
        orders = [range(count), reversed(range(count)), jumble(3 * count, 0, count - 1, 5)]
        for order in orders:
            for number in order:
                found = ask(QUESTIONS[number])
                self.assertEqual((found, kinds(found)), (kept[number], kinds(kept[number])), QUESTIONS[number])
        self.assertEqual(first, kept)

    def test_with_refusals_in_between(self):
        kept = [ask(question) for question in QUESTIONS]
        for number, question in enumerate(QUESTIONS):
            ask_refused(REFUSED[number % len(REFUSED)])
            self.assertEqual(ask(question), kept[number], question)

    def test_what_is_handed_in_stays(self):
        for question in QUESTIONS + REFUSED:
            handed = copy.deepcopy(question[1:])
            try:
                question[0](*handed)
            except WheelError:
                pass
            self.assertEqual((handed, kinds(handed)), (question[1:], kinds(question[1:])), question)

    def test_told_lists_made_longer_all_the_way_in(self):
        for question in QUESTIONS:
            handed = copy.deepcopy(question[1:])
            kept = copy.deepcopy(question[0](*handed))
            for unused in range(3):
                found = question[0](*handed)
                self.assertEqual(found, kept, question)
                for one in lists_in(found):
                    one.append(("spoilt", 99))
                    one.insert(0, None)
            self.assertEqual(question[0](*handed), kept, question)
            self.assertEqual(handed, question[1:], question)

    def test_no_two_told_lists_are_one(self):
        told = []
        for question in QUESTIONS * 2:
            handed = copy.deepcopy(question[1:])
            told.append((handed, question[0](*handed)))
        lists = lists_in([list(pair) for pair in told])
        self.assertEqual(len({id(one) for one in lists}), len(lists))

    def test_handed_in_lists_are_not_kept(self):
        for question in QUESTIONS:
            handed = copy.deepcopy(question[1:])
            found = question[0](*handed)
            kept = copy.deepcopy(found)
            for one in lists_in(handed):
                one.clear()
            self.assertEqual(found, kept, question)
            self.assertEqual(ask(question), kept, question)

    def test_with_strikers_and_desks_at_work(self):
        kept = [ask(question) for question in QUESTIONS]
        striker = Striker("abcab", 2)
        desk = Desk()
        for row in ("wheel a abcab", "wheel b ab", "slack 2", "word abca", "striker a"):
            desk.say(row)
        for number, question in enumerate(QUESTIONS):
            by = number % 9 - 4
            self.assertEqual(striker.turn(by), desk.say("spin " + str(by)))
            turns = striker.strike("cab"[:number % 4])
            self.assertEqual(desk.say("hit " + ("cab"[:number % 4] or "-")), show_turns(turns))
            turns.append(7)
            self.assertEqual(ask(question), kept[number], question)
            self.assertEqual(desk.say("text"), striker.text())
        self.assertEqual(desk.say("joint cab"), str(joint_cost(["abcab", "ab"], "cab")))
        self.assertEqual(desk.say("pairs"), "ab:1 ac:1 bc:1")


class PromiseTest(unittest.TestCase):
    """Point 3, sentence by sentence, over wheels and words in a jumble."""

    WHEELS = ["a", "ab", "abcab", "strike", "aabbcd", "wheel"]

    def tasks(self):
        for wheel in self.WHEELS:
            for slack in (0, 1, 4):
                for word in scrambled(sorted(set(wheel)), 2, 9, slack + 2) + [""]:
                    yield wheel, word, slack

    def test_plan_paper_and_floor(self):
        for wheel, word, slack in self.tasks():
            plan = least_plan(wheel, word, slack)
            least = least_cost(wheel, word, slack)
            self.assertEqual(struck(wheel, plan), word)
            self.assertIs(is_plan(wheel, word, plan), True)
            self.assertEqual((cost(plan, slack), price(plan, slack)), (least, least))
            rows = table(wheel, word, slack)
            self.assertIs(let_by(wheel, word, slack, rows), True)
            self.assertEqual(floor_by(wheel, word, slack, rows), least)
            self.assertEqual(cost_from(wheel, word, slack, 0), least)
            self.assertLessEqual(best_start(wheel, word, slack)[1], least)

    def test_turned_by_a_full_round_or_in_a_glass(self):
        for wheel, word, slack in self.tasks():
            least = least_cost(wheel, word, slack)
            many = many_least(wheel, word, slack)
            for other in (turned(wheel, len(wheel)), turned(wheel, -3 * len(wheel)), in_glass(wheel)):
                self.assertEqual((least_cost(other, word, slack), many_least(other, word, slack)), (least, many))
            self.assertEqual(joint_cost([in_glass(wheel)] * 2, word), joint_cost([wheel] * 2, word))
            for place in range(len(wheel)):
                self.assertEqual(least_cost(turned(wheel, place), word, slack), cost_from(wheel, word, slack, place))
                there = -place % len(wheel)
                self.assertEqual(heads_cost(in_glass(wheel), [there], word), heads_cost(wheel, [place], word))
            self.assertEqual(best_start(in_glass(wheel), word, slack)[1], best_start(wheel, word, slack)[1])

    def test_orders_and_bars(self):
        for signs in ("a", "ab", "abc", "abcd", "abcde"):
            for book in (scrambled(signs, 3, 12, 4) + [signs], [signs * 3], [signs, signs[::-1], signs]):
                fair = fair_order(book)
                for order in ["".join(order) for order in itertools.permutations(signs)]:
                    self.assertEqual(2 * reach(book, order), sum(cut(book, half) for half in halves(book, order)))
                    self.assertGreaterEqual(reach(book, order), floor_of(book))
                    self.assertGreaterEqual(reach(book, order), reach(book, best_order(book)))
                    beginnings = [order[:count] for count in range(1, len(order) + 1)]
                    self.assertEqual(spread(book, order), sum(cut(book, part) for part in beginnings))
                    self.assertGreaterEqual(spread(book, order), best_bar(book)[1])
                    if sum(one != other for one, other in zip(order, fair)) == 2:
                        self.assertGreaterEqual(reach(book, order), reach(book, fair))
                self.assertEqual(dict(bar_table(book))[signs], best_bar(book)[1])

    def test_an_order_as_a_wheel(self):
        for signs in ("abc", "abcde", "abcdefg"):
            for word in scrambled(signs, 5, 30, 3):
                book = [word + signs]
                order = best_order(book)
                self.assertEqual(cost_from(order, book[0], 0, order.index(book[0][0])), reach(book, order))

    def test_several_wheels_and_heads(self):
        for wheel, word, slack in self.tasks():
            alone = least_cost(wheel, word, 0)
            self.assertEqual(joint_cost([wheel], word), alone)
            for bank in ([wheel, "abc"], ["zz", wheel], ["q", "kit", wheel]):
                self.assertLessEqual(joint_cost(bank, word), alone)
                self.assertEqual(joint_price(joint_plan(bank, word)), joint_cost(bank, word))
            for heads in ([0], [0, len(wheel) - 1], [0, 0, len(wheel) // 2]):
                least = heads_cost(wheel, heads, word)
                self.assertLessEqual(least, alone)
                self.assertGreaterEqual(joint_price(near_plan(wheel, heads, word)), least)
                self.assertEqual(joint_price(heads_plan(wheel, heads, word)), least)

    def test_words_one_by_one_and_lost_places(self):
        for wheel, word, slack in self.tasks():
            for size in (1, 2, 4):
                striker = Striker(wheel, slack)
                for at in range(0, len(word), size):
                    striker.strike(word[at:at + size])
                self.assertGreaterEqual(striker.spent(), least_cost(wheel, word, slack))
                self.assertEqual(cost(striker.turns(), slack), striker.spent())
                for place in range(len(wheel)):
                    found = struck(turned(wheel, place), striker.turns())
                    self.assertIn(place, places_by(wheel, striker.turns(), found))

    def test_whatever_slipped(self):
        for wheel, word, slack in self.tasks():
            turns = least_plan(wheel, word, slack)
            self.assertEqual(least_slips(wheel, turns, word), [])
            if len(wheel) > 1 and word:
                for slips in ([(0, 1)], [(4, len(wheel) - 1)], [(1, 1), (8, len(wheel) - 1)]):
                    found = seen(wheel, turns, slips)
                    told = least_slips(wheel, turns, found)
                    self.assertEqual(seen(wheel, turns, told), found)
                    self.assertLessEqual(len(told), len(slips))
                    self.assertGreaterEqual(many_slips(wheel, turns, found), 1)


if __name__ == "__main__":
    unittest.main()
