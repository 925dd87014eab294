"""Things that several test files ask about, and ways of asking."""

import copy
import functools
import unittest

# Every mark from the blank to the ~ that is no small letter, and line ends.
NO_SIGNS = [chr(code) for code in range(32, 127) if not 97 <= code <= 122]
NO_SIGNS += ["\n", "\r", "\r\n"]

# Small letters in Python's eyes, or neighbours of a and z, but no signs.
FOREIGN = ["\u00e9", "\u00df", "\u00aa", "\u0430", "\uff41"]

NO_TEXTS = [
    0, 1, -1, 7, 10 ** 39, -(10 ** 39), True, False, None,
    [], ["a"], ["a", "b"], ["abc"], [""], (), ("a",), ("a", "b"), ("abc",),
    [1, True, None, "a"], [[[[["a"]]]]], ((((("a",),),),),), [("a", ["b"])],
]

NO_WHEELS = ["", "a" * 31, "z" * 80, "a" * 81, "A", "aB", "a b", " ab", "ab ", "ab\n", "\nab", "1", "a-b", "\u00e9"]
NO_WORDS = ["a" * 81, "a" * 4000, "A", "aB", "a b", " ab", "ab ", "ab\n", "\nab", "1", "-", "a-b", "\u00e9"]
NO_SLACKS = [-1, 10, -2, 11, 99, -10 ** 39, 10 ** 39]


def spoilt(mark):
    """Return texts with the mark at the beginning, inside, at the end, alone."""
    return [mark + "ab", "a" + mark + "b", "ab" + mark, mark]


def lists_in(thing):
    """Return every list in a thing, itself included."""
    if not isinstance(thing, (list, tuple)):
        return []
    own = [thing] if isinstance(thing, list) else []
    return own + [inner for part in thing for inner in lists_in(part)]


def kinds(thing):
    """Return a thing with each value in it replaced by its kind."""
    if isinstance(thing, (list, tuple)):
        return (type(thing), [kinds(part) for part in thing])
    return type(thing)


class AskingTest(unittest.TestCase):
    """Asks, and looks whether what is handed in stays, and what is told is new."""

    def assert_told(self, deed, handed, expected):
        with self.subTest(deed=deed.__name__, handed=handed):
            before = copy.deepcopy(handed)
            first = deed(*handed)
            self.assertEqual(first, expected)
            # 1 equals True, and [] may be told where () is meant.
            self.assertEqual(kinds(first), kinds(expected))
            self.assertEqual((handed, kinds(handed)), (before, kinds(before)))
            self.assert_own(first, deed, handed, expected)

    def assert_own(self, first, deed, handed, expected):
        """The lists told are the asker's own, and the answer stays the same."""
        second = deed(*handed)
        found = lists_in(first) + lists_in(second) + lists_in(handed)
        told = len(lists_in(first)) + len(lists_in(second))
        for at, one in enumerate(found[:told]):
            self.assertFalse([other for other in found[at + 1:] if other is one])
        for one in lists_in(first):
            one.clear()
        self.assertEqual(second, expected)
        self.assertEqual(deed(*handed), expected)

    def assert_refused(self, refusal, deed, *handed):
        with self.subTest(refusal=refusal.__name__, deed=deed.__name__, handed=handed):
            before = copy.deepcopy(handed)
            with self.assertRaises(refusal) as caught:
                deed(*handed)
            self.assertIs(type(caught.exception), refusal)
            self.assertEqual((handed, kinds(handed)), (before, kinds(before)))


def price(turns, slack):
    """The cost of turns, each looked at by itself as the document tells it."""
    total = 0
    for at, turn in enumerate(turns):
        total += abs(turn)
        ahead = [one for one in turns[:at] if one != 0]
        if ahead and (ahead[-1] > 0 > turn or ahead[-1] < 0 < turn):
            total += slack
    return total


def all_plans(wheel, word, place=0):
    """All plans of a wheel for a word, gone through one by one, rising."""
    if word == "":
        return [[]]
    plans = []
    for turn in range(1 - len(wheel), len(wheel)):
        there = place + turn
        while there < 0:
            there += len(wheel)
        while there >= len(wheel):
            there -= len(wheel)
        if wheel[there] == word[0]:
            plans += [[turn] + rest for rest in all_plans(wheel, word[1:], there)]
    return plans


def plans_from(bank, places, word):
    """All joint plans with the heads at these places at first."""
    if word == "":
        return [[]]
    plans = []
    for number, wheel in enumerate(bank):
        for turn in range(1 - len(wheel), len(wheel)):
            there = (places[number] + turn) % len(wheel)
            if wheel[there] == word[0]:
                then = places[:number] + [there] + places[number + 1:]
                plans += [[(number, turn)] + rest for rest in plans_from(bank, then, word[1:])]
    return plans


def joint_price(plan):
    """The cost of a joint plan."""
    return sum(abs(turn) for number, turn in plan)


def by_beginnings(bank, places, word):
    """The least cost, the first joint plan of that cost and how many, from the beginning to the end.

    It serves where there are too many plans to go through.
    """
    row = {tuple(places): (0, (), 1)}
    for sign in word:
        after = {}
        for stand, (spent, plan, many) in row.items():
            for number, wheel in enumerate(bank):
                for turn in range(1 - len(wheel), len(wheel)):
                    there = (stand[number] + turn) % len(wheel)
                    if wheel[there] != sign:
                        continue
                    then = stand[:number] + (there,) + stand[number + 1:]
                    told = (spent + abs(turn), plan + ((number, turn),))
                    best = after.get(then)
                    if best is None or told[0] < best[0]:
                        after[then] = told + (many,)
                    elif told[0] == best[0]:
                        after[then] = (told[0], min(best[1], told[1]), best[2] + many)
        row = after
    least = min(found[0] for found in row.values())
    ends = [found for found in row.values() if found[0] == least]
    return least, list(min(plan for spent, plan, many in ends)), sum(many for spent, plan, many in ends)


def scrambled(signs, words, length, step):
    """A book of words that go through the signs in a jumble, the same each time."""
    book = []
    at = step
    for unused in range(words):
        word = ""
        for again in range(length):
            at = (at * 1103515245 + 12345) % 2 ** 31
            word += signs[at // 65536 % len(signs)]
        book.append(word)
    return book


def jumble(count, low, high, step):
    """So many whole numbers from low to high in a jumble, the same each time."""
    numbers = []
    at = step
    for unused in range(count):
        # Several draws for each, so that numbers of forty figures differ in all of them.
        whole = 0
        for again in range(6):
            at = (at * 1103515245 + 12345) % 2 ** 31
            whole = whole * 2 ** 24 + at // 128
        numbers.append(low + whole % (high - low + 1))
    return numbers


@functools.lru_cache(maxsize=None)
def often(words, sign, other):
    """How often two unlike signs stand side by side, either first, in a tuple of words."""
    return sum(word[at:at + 2] in (sign + other, other + sign) for word in words for at in range(len(word)))


def neighbours(book, sign, other):
    """How often two unlike signs stand side by side, either first, in the words of a book."""
    return often(tuple(book), sign, other)


def cut_of(book, among):
    """The cut of some signs, by all two signs of a book."""
    signs = sorted(set("".join(book)))
    inside = [sign for sign in signs if sign in among]
    outside = [sign for sign in signs if sign not in among]
    return sum(neighbours(book, sign, other) for sign in inside for other in outside)


NO_BOOKS = [
    ["a"] * 21, [""] * 21, ["ab"] * 200, ["a" * 81], ["ab", "a" * 81], ["z" * 4000], ["ab", "B"], ["a b"], ["ab\n"],
    ["-"], ["ab"] * 19 + ["1"], ["A"] + ["ab"] * 19, ["\u00e9"], [" "],
]
NO_LISTS = ["", "a", "abc", (), ("a", "b"), None, True, False, 0, 7, 10 ** 39]
