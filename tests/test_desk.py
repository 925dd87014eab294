"""Promise 24: the desk, its rows, what it keeps, and what it refuses in which order."""

import unittest

from samples import FOREIGN, NO_TEXTS, jumble, scrambled
from strikewheel.bank import joint_cost
from strikewheel.bars import best_bar
from strikewheel.books import pairs_of, reach
from strikewheel.desk import Desk
from strikewheel.errors import Lacks, NoBank, NoBook, NoDeed, NoName, NoRow, NoSlack, NoTurns, NoWheel, NoWord, TooMany
from strikewheel.least import best_start, least_cost, least_plan, many_least
from strikewheel.lost import finder
from strikewheel.orders import best_order, fair_order, floor_of
from strikewheel.plans import struck
from strikewheel.strikers import Striker
from strikewheel.texts import show_turns
from strikewheel.wheels import how_led

ALPHABET = "abcdefghijklmnopqrstuvwxyz"

# A row of each sort that a desk with the wheels below takes, striker or not.
PLAIN_ROWS = [
    "wheel new abc", "drop disk", "slack 3", "word cab", "word -", "clear", "wheels", "show disk", "alike disk rim",
    "plan disk cab", "plan disk -", "cost disk cab", "start disk cab", "strike disk 1 2", "strike disk none",
    "joint cab", "best", "fair", "bar", "floor", "pairs", "finder disk", "striker disk",
]
STRIKER_ROWS = ["hit cab", "hit -", "spin 1", "spin -1", "undo", "where", "text"]

# Rows whose last word is one of many that may stand there.
OPEN_ENDED = ["strike disk 1 2", "strike disk none"]

NO_NUMBERS = [
    "-", "--1", "-0", "00", "01", "-01", "007", "1000000000", "1234567890", "9" * 40, "a", "1a", "a1", "+1", "1.0",
    "1-", "1,2", "0x1", "1_0", "one", "none ", "1\n", "\n1", "-1000000000", "-1234567890", "-a", "\u0661", "\u00b2",
]

NO_NAMES = [
    "A", "aB", "abcdefghi", "z" * 9, "z" * 81, "z" * 4000, "-", "1", "a1", "a-b", "disk\n", "\ndisk", "di\nsk", "Disk",
    "!", "~", "\u00e9", "none!", "0", "-1",
]


def told(*rows):
    """A desk that has been told these rows."""
    desk = Desk()
    for row in rows:
        desk.say(row)
    return desk


def with_wheels(*rows):
    """A desk with two wheels and a book, told these rows then."""
    return told("wheel disk abc", "wheel rim bcad", "word abca", "word bdb", *rows)


class DeskTest(unittest.TestCase):
    def assert_says(self, desk, row, answer):
        with self.subTest(row=row):
            found = desk.say(row)
            self.assertEqual(found, answer)
            self.assertIs(type(found), str)

    def assert_answers(self, desk, *rows_and_answers):
        for row, answer in rows_and_answers:
            self.assert_says(desk, row, answer)

    def assert_refused(self, refusal, desk, row):
        """The row is refused by just this refusal, and nothing that the desk tells changes."""
        with self.subTest(refusal=refusal.__name__, row=row):
            before = self.all_of(desk)
            with self.assertRaises(refusal) as caught:
                desk.say(row)
            self.assertIs(type(caught.exception), refusal)
            self.assertEqual(self.all_of(desk), before)

    def all_of(self, desk):
        """What a desk keeps, as far as it tells it by rows that change nothing."""
        names = desk.say("wheels").split(" ")
        found = [names, desk.say("pairs")]
        for name in names:
            if name != "none":
                wheel = desk.say("show " + name)
                found.append((wheel, desk.say("cost " + name + " " + (wheel + wheel[::-1])[:12])))
        for row in ("best", "where", "text"):
            try:
                found.append(desk.say(row))
            except (TooMany, NoDeed) as refusal:
                found.append(type(refusal))
        return found


class WheelsTest(DeskTest):
    def test_at_first(self):
        desk = Desk()
        self.assert_answers(desk, ("wheels", "none"), ("pairs", "none"))
        for row in ("best", "fair", "bar", "floor"):
            self.assert_refused(TooMany, desk, row)
        for row in STRIKER_ROWS:
            self.assert_refused(NoDeed, desk, row)
        for row in ("joint a", "joint -"):
            self.assert_refused(NoBank, desk, row)

    def test_put_shown_and_dropped(self):
        desk = Desk()
        self.assert_answers(
            desk, ("wheel disk abc", "ok"), ("wheels", "disk"), ("show disk", "abc"), ("wheel a zz", "ok"),
            ("wheels", "a disk"), ("wheel diskette q", "ok"), ("wheel disk cba", "ok"), ("show disk", "cba"),
            ("wheels", "a disk diskette"), ("drop a", "ok"), ("wheels", "disk diskette"), ("show diskette", "q"),
            ("drop disk", "ok"), ("drop diskette", "ok"), ("wheels", "none"), ("wheel disk ab", "ok"),
            ("show disk", "ab"),
        )

    def test_names_of_one_and_eight_signs(self):
        for name in ("a", "z", "abcdefgh", "zzzzzzzz", "none", "wheel", "ok", "no", "glass"):
            desk = told("wheel " + name + " abc")
            self.assert_answers(desk, ("wheels", name), ("show " + name, "abc"), ("plan " + name + " c", "-1"))

    def test_wheels_of_one_and_thirty_places(self):
        for signs in ("a", "z" * 30, ALPHABET + "abcd"):
            self.assert_answers(Desk(), ("wheel disk " + signs, "ok"), ("show disk", signs))

    def test_forty_names(self):
        names = ["n" + sign for sign in ALPHABET] + ["m" + sign for sign in ALPHABET[:14]]
        desk = Desk()
        for name in names:
            self.assert_says(desk, "wheel " + name + " " + name + "q", "ok")
        self.assertEqual(len(names), 40)
        self.assert_says(desk, "wheels", " ".join(sorted(names)))
        for name in names:
            self.assert_says(desk, "show " + name, name + "q")
        self.assert_says(desk, "wheel na zzz", "ok")
        self.assert_refused(NoBank, desk, "joint a")
        for name in names:
            self.assert_says(desk, "drop " + name, "ok")
        self.assert_says(desk, "wheels", "none")

    def test_no_wheel(self):
        desk = with_wheels()
        for signs in ("A", "a" * 31, "ab1", "-", "a-b", "1", "none!", "z" * 4000, "ab\n", "\u00e9", "0"):
            self.assert_refused(NoWheel, desk, "wheel disk " + signs)
            self.assert_refused(NoWheel, desk, "wheel new " + signs)

    def test_alike(self):
        desk = told("wheel a abcd", "wheel b cdab", "wheel c dcba", "wheel d abce", "wheel e adcb", "wheel f ab")
        self.assert_answers(
            desk, ("alike a a", "0"), ("alike a b", "2"), ("alike b a", "2"), ("alike a c", "glass 1"),
            ("alike a e", "glass 0"), ("alike a d", "no"), ("alike a f", "no"), ("alike f f", "0"),
        )
        names = "abcdef"
        wheels = dict(zip(names, ("abcd", "cdab", "dcba", "abce", "adcb", "ab")))
        for name in names:
            for other in names:
                led = how_led(wheels[name], wheels[other])
                expected = "no" if led is None else ("glass " if led[0] else "") + str(led[1])
                self.assert_says(desk, "alike " + name + " " + other, expected)


class PlansTest(DeskTest):
    def test_by_hand(self):
        desk = told("wheel disk abc")
        self.assert_answers(
            desk, ("plan disk cab", "-1 1 1"), ("cost disk cab", "3 1"), ("start disk cab", "2 2"), ("slack 2", "ok"),
            ("plan disk cab", "2 1 1"), ("cost disk cab", "4 1"), ("slack 0", "ok"), ("plan disk cab", "-1 1 1"),
            ("plan disk a", "0"), ("plan disk -", "none"), ("cost disk -", "0 1"), ("start disk -", "0 0"),
            ("slack 9", "ok"), ("start disk ccb", "2 1"),
        )

    def test_against_the_modules(self):
        for signs in ("q", "abcab", "strikewheel", ALPHABET + "abcd"):
            desk = told("wheel disk " + signs)
            for slack in range(10):
                self.assert_says(desk, "slack " + str(slack), "ok")
                for word in scrambled(sorted(set(signs)), 1, 80, slack) + scrambled(sorted(set(signs)), 2, 6, slack):
                    task = (signs, word, slack)
                    self.assert_answers(
                        desk, ("plan disk " + word, show_turns(least_plan(*task))),
                        ("cost disk " + word, "{} {}".format(least_cost(*task), many_least(*task))),
                        ("start disk " + word, "{} {}".format(*best_start(*task))),
                    )

    def test_no_word_then_lacks(self):
        desk = with_wheels()
        for row in ("plan disk ", "cost disk ", "start disk "):
            for word in ("A", "a" * 81, "a1", "--", "a-", "zZ", "1", "ab\n", "\u00e9"):
                self.assert_refused(NoWord, desk, row + word)
            for word in ("d", "abd", "z" * 80):
                self.assert_refused(Lacks, desk, row + word)

    def test_strike(self):
        desk = told("wheel disk abc", "wheel q q")
        self.assert_answers(
            desk, ("strike disk none", "-"), ("strike disk 0", "a"), ("strike disk 1", "b"), ("strike disk -1", "c"),
            ("strike disk 1 1 1", "bca"), ("strike disk 0 0", "aa"), ("strike disk 3 -3 999999999 -999999999", "aaaa"),
            ("strike q 5 6 7 -8", "qqqq"), ("strike disk 100000000 -7", struck("abc", [100000000, -7])),
        )
        turns = jumble(300, -999999999, 999999999, 4)
        self.assert_says(desk, "strike disk " + show_turns(turns), struck("abc", turns))

    def test_strike_with_no_numbers(self):
        desk = with_wheels("striker disk")
        for text in NO_NUMBERS:
            self.assert_refused(NoRow, desk, "strike disk " + text)
            self.assert_refused(NoRow, desk, "strike disk 1 " + text)
            self.assert_refused(NoRow, desk, "strike disk " + text + " 1")
        for row in (
            "strike", "strike ", "strike disk", "strike disk ", "strike disk  1", "strike disk 1  2",
            "strike disk none 1", "strike disk 1 none", "strike disk none none", "strike  1", "strike disk 1 ",
            " strike disk 1", "strike disk None", "strike zzz", "strike A", "strike zzz x", "strike A 01",
        ):
            self.assert_refused(NoRow, desk, row)


class SlackTest(DeskTest):
    def test_slacks(self):
        desk = told("wheel disk abcd")
        for slack in range(10):
            self.assert_answers(
                desk, ("slack " + str(slack), "ok"),
                ("cost disk bab", "{} {}".format(least_cost("abcd", "bab", slack), many_least("abcd", "bab", slack))),
            )

    def test_no_slack(self):
        desk = with_wheels("slack 4")
        for number in ("10", "11", "99", "100", "999999999", "123456789"):
            self.assert_refused(NoSlack, desk, "slack " + number)

    def test_no_row(self):
        desk = with_wheels("slack 4")
        for text in NO_NUMBERS + ["-1", "-9", "-10", "none", "1 2", "-999999999"]:
            self.assert_refused(NoRow, desk, "slack " + text)


class BookTest(DeskTest):
    def test_by_hand(self):
        desk = Desk()
        self.assert_answers(
            desk, ("word acac", "ok"), ("pairs", "ac:3"), ("word bdbd", "ok"), ("pairs", "ac:3 bd:3"),
            ("best", "abdc 6"),
            ("fair", "bacd 6"), ("bar", "acbd 6"), ("floor", "6"), ("word ad", "ok"), ("pairs", "ac:3 ad:1 bd:3"),
            ("clear", "ok"), ("pairs", "none"), ("word aa", "ok"), ("pairs", "none"), ("best", "a 0"), ("fair", "a 0"),
            ("bar", "a 0"), ("floor", "0"),
        )

    def test_against_the_modules(self):
        desk = Desk()
        for signs in ("ab", "abcde", "abcdefg"):
            book = scrambled(signs, 4, 20, len(signs))
            for word in book:
                self.assert_says(desk, "word " + word, "ok")
            best, fair = best_order(book), fair_order(book)
            self.assert_answers(
                desk, ("best", "{} {}".format(best, reach(book, best))),
                ("fair", "{} {}".format(fair, reach(book, fair))),
                ("bar", "{} {}".format(*best_bar(book))), ("floor", str(floor_of(book))),
                ("pairs", " ".join("{}{}:{}".format(*pair) for pair in pairs_of(book))), ("clear", "ok"),
            )

    def test_too_many_signs(self):
        for signs, refused, fine in (
            (ALPHABET[:7], (), ("best", "fair", "bar", "floor")), (ALPHABET[:8], ("best",), ("fair", "bar", "floor")),
            (ALPHABET[:10], ("best",), ("fair", "bar", "floor")), (ALPHABET[:11], ("best", "bar"), ("fair", "floor")),
            (ALPHABET[:12], ("best", "bar"), ("fair", "floor")), (ALPHABET[:13], ("best", "bar", "fair", "floor"), ()),
        ):
            desk = told("word " + signs)
            for row in refused:
                self.assert_refused(TooMany, desk, row)
            if "fair" in fine:
                self.assert_says(desk, "fair", signs + " " + str(len(signs) - 1))
                self.assert_says(desk, "floor", str(floor_of([signs])))
            if "bar" in fine:
                self.assert_says(desk, "bar", signs + " " + str(len(signs) - 1))

    def test_the_twenty_first_word(self):
        desk = Desk()
        for number in range(20):
            self.assert_says(desk, "word " + ("ab" if number % 2 else "-"), "ok")
        self.assert_says(desk, "pairs", "ab:10")
        for word in ("ab", "-", "c", "z" * 80):
            self.assert_refused(NoBook, desk, "word " + word)
        for word in ("A", "a" * 81, "--"):
            self.assert_refused(NoWord, desk, "word " + word)
        self.assert_answers(desk, ("pairs", "ab:10"), ("clear", "ok"), ("word cd", "ok"), ("pairs", "cd:1"))

    def test_the_word_without_signs(self):
        desk = told(*["word -"] * 20)
        self.assert_says(desk, "pairs", "none")
        for row in ("best", "fair", "bar", "floor"):
            self.assert_refused(TooMany, desk, row)
        self.assert_refused(NoBook, desk, "word a")

    def test_no_word(self):
        desk = with_wheels()
        for word in ("A", "a" * 81, "a1", "--", "a-", "1", "ab\n", "\nab", "~", "\u00e9", "z" * 4000):
            self.assert_refused(NoWord, desk, "word " + word)
        self.assert_says(desk, "word " + "z" * 80, "ok")


class JointTest(DeskTest):
    def test_one_two_and_three_wheels(self):
        desk = told("wheel b abc")
        self.assert_answers(desk, ("joint cab", "3"), ("joint -", "0"), ("wheel a cab", "ok"), ("joint cab", "1"))
        self.assert_answers(desk, ("wheel c b", "ok"), ("joint cab", "0"), ("joint bbb", "0"), ("joint -", "0"))

    def test_no_wheel_and_four(self):
        desk = Desk()
        for word in ("a", "-", "z", "A", "a" * 81):
            self.assert_refused(NoBank, desk, "joint " + word)
        for name in "abcd":
            desk.say("wheel " + name + " abc")
        for word in ("a", "-", "z", "A", "a" * 81):
            self.assert_refused(NoBank, desk, "joint " + word)
        self.assert_answers(desk, ("drop c", "ok"), ("joint cab", str(joint_cost(["abc"] * 3, "cab"))))

    def test_four_hundred_stands(self):
        desk = told("wheel a " + "ab" * 10, "wheel b " + "cd" * 10)
        self.assert_says(desk, "joint dadb", str(joint_cost(["ab" * 10, "cd" * 10], "dadb")))
        desk.say("wheel b " + "cd" * 10 + "c")
        self.assert_refused(NoBank, desk, "joint dadb")
        desk.say("wheel b " + "cd" * 10)
        desk.say("wheel c q")
        self.assert_says(desk, "joint dqa", str(joint_cost(["ab" * 10, "cd" * 10, "q"], "dqa")))

    def test_no_slack_is_paid(self):
        desk = told("wheel a abcd", "slack 9")
        self.assert_answers(desk, ("joint bab", "3"), ("cost a bab", "5 1"))

    def test_no_word_then_lacks(self):
        desk = with_wheels()
        for word in ("A", "a" * 81, "--", "zZ"):
            self.assert_refused(NoWord, desk, "joint " + word)
        for word in ("z", "abz"):
            self.assert_refused(Lacks, desk, "joint " + word)
        self.assert_says(desk, "joint abcd", str(joint_cost(["abc", "bcad"], "abcd")))


class FinderTest(DeskTest):
    def test_by_hand(self):
        desk = told("wheel a aab", "wheel b abab", "wheel c q", "wheel d abcab", "wheel e " + "a" * 11 + "b")
        self.assert_answers(
            desk, ("finder a", "0 1"), ("finder b", "no"), ("finder c", "none"), ("finder d", "0 2"),
            ("finder e", "0" + " 1" * 10),
        )

    def test_against_the_module(self):
        for signs in ("abcdefghijkl", "mississippi", "aabbaabb", "strikewheel", "aabaab", "a"):
            turns = finder(signs)
            self.assert_says(told("wheel disk " + signs), "finder disk", "no" if turns is None else show_turns(turns))

    def test_too_many(self):
        for signs in ("a" * 13, ALPHABET, "a" * 30):
            self.assert_refused(TooMany, told("wheel disk " + signs), "finder disk")


class StrikerTest(DeskTest):
    def test_by_hand(self):
        desk = told("wheel disk abcd", "slack 3", "striker disk")
        self.assert_answers(
            desk, ("where", "0 0 0"), ("text", "-"), ("spin 1", "b"), ("where", "1 1 1"), ("text", "b"),
            ("hit ac", "3 2"),
            ("where", "2 1 6"), ("text", "bac"), ("hit -", "none"), ("text", "bac"), ("undo", "ok"), ("text", "bac"),
            ("undo", "ok"), ("text", "b"), ("where", "1 1 1"), ("spin -1", "a"), ("where", "0 -1 5"), ("spin 0", "a"),
            ("text", "baa"), ("undo", "ok"), ("undo", "ok"), ("undo", "ok"), ("where", "0 0 0"), ("text", "-"),
        )
        self.assert_refused(NoDeed, desk, "undo")

    def test_ok_for_a_striker(self):
        desk = with_wheels()
        self.assert_answers(desk, ("striker disk", "ok"), ("spin 1", "b"), ("text", "b"))
        self.assert_answers(desk, ("striker rim", "ok"), ("text", "-"), ("spin 1", "c"))

    def test_refusals(self):
        desk = with_wheels("striker disk", "hit cab")
        for by in ("3", "-3", "4", "99", "-999999999", "999999999"):
            self.assert_refused(NoTurns, desk, "spin " + by)
        for word in ("A", "a" * 81, "--", "zZ", "a1"):
            self.assert_refused(NoWord, desk, "hit " + word)
        for word in ("d", "abd", "z"):
            self.assert_refused(Lacks, desk, "hit " + word)
        for text in NO_NUMBERS + ["none", "1 2", ""]:
            self.assert_refused(NoRow, desk, "spin " + text)
        self.assert_answers(desk, ("spin 2", struck("abc", [-1, 1, 1, 2])[-1]), ("spin -2", "b"))

    def test_ahead_of_the_first_striker(self):
        for desk in (Desk(), with_wheels()):
            for row in STRIKER_ROWS + [
                "hit A", "hit z", "hit " + "a" * 81, "spin 99", "spin -99", "spin 999999999", "hit ab", "hit --",
            ]:
                self.assert_refused(NoDeed, desk, row)
            for row in (
                "hit", "hit ", "hit a b", "spin", "spin x", "spin 01", "spin -0", "spin none", "spin 1 2", "undo 1",
                "where x", "text text", "undo ", " where", "text  ", "spin 1234567890",
            ):
                self.assert_refused(NoRow, desk, row)

    def test_a_refused_striker_is_none(self):
        desk = with_wheels()
        self.assert_refused(NoName, desk, "striker zzz")
        self.assert_refused(NoRow, desk, "striker")
        self.assert_refused(NoDeed, desk, "where")
        desk.say("striker disk")
        desk.say("spin 1")
        self.assert_refused(NoName, desk, "striker zzz")
        self.assert_says(desk, "text", "b")

    def test_whatever_becomes_of_wheel_and_slack(self):
        desk = told("wheel disk abcd", "slack 3", "striker disk", "spin 1", "wheel disk zzz", "slack 0")
        self.assert_answers(desk, ("hit ac", "3 2"), ("where", "2 1 6"))
        self.assert_answers(desk, ("drop disk", "ok"), ("hit b", "3"), ("text", "bacb"))
        self.assert_refused(Lacks, desk, "hit z")
        self.assert_refused(NoName, desk, "striker disk")
        self.assert_answers(desk, ("undo", "ok"), ("text", "bac"), ("wheel disk zy", "ok"), ("striker disk", "ok"))
        self.assert_answers(desk, ("hit y", "-1"), ("spin 1", "z"), ("where", "0 1 2"), ("text", "yz"))

    def test_against_the_module(self):
        desk = told("wheel disk strikewheel", "slack 2", "striker disk")
        striker = Striker("strikewheel", 2)
        words = scrambled("strikewhl", 60, 5, 3)
        for number, by in enumerate(jumble(60, -10, 10, 5)):
            if number % 7 == 6:
                striker.back()
                self.assert_says(desk, "undo", "ok")
            elif number % 3 == 1:
                self.assert_says(desk, "hit " + words[number], show_turns(striker.strike(words[number])))
            else:
                self.assert_says(desk, "spin " + str(by), striker.turn(by))
            place, way = striker.stand()
            self.assert_says(desk, "where", "{} {} {}".format(place, way, striker.spent()))
            self.assert_says(desk, "text", striker.text())


class NoRowTest(DeskTest):
    def test_every_row_is_one(self):
        for row in PLAIN_ROWS:
            self.assertIs(type(with_wheels().say(row)), str)
        for row in STRIKER_ROWS:
            self.assertIs(type(with_wheels("striker disk", "spin 1").say(row)), str)

    def test_words_too_many(self):
        for desk in (with_wheels(), with_wheels("striker disk", "spin 1")):
            for row in PLAIN_ROWS + STRIKER_ROWS:
                for word in ("x", "disk", "-", "none", "A"):
                    self.assert_refused(NoRow, desk, row + " " + word)
                if row not in OPEN_ENDED:
                    self.assert_refused(NoRow, desk, row + " 1")

    def test_words_too_few(self):
        for desk in (with_wheels(), with_wheels("striker disk", "spin 1")):
            for row in PLAIN_ROWS + STRIKER_ROWS:
                words = row.split(" ")
                for count in range(1, len(words)):
                    shorter = " ".join(words[:count])
                    if shorter != "strike disk 1":
                        self.assert_refused(NoRow, desk, shorter)

    def test_blanks(self):
        for desk in (with_wheels(), with_wheels("striker disk", "spin 1")):
            for row in PLAIN_ROWS + STRIKER_ROWS:
                for spoilt in (" " + row, row + " ", " " + row + " ", row + "  ", "\n" + row):
                    self.assert_refused(NoRow, desk, spoilt)
                if " " in row:
                    self.assert_refused(NoRow, desk, row.replace(" ", "  "))
                    self.assert_refused(NoRow, desk, row.replace(" ", "  ", 1))
                    self.assert_refused(NoRow, desk, row.replace(" ", "\n"))
                    self.assert_refused(NoRow, desk, row.replace(" ", "", 1))

    def test_a_line_end_behind_a_row_without_words(self):
        desk = with_wheels("striker disk", "spin 1")
        for row in PLAIN_ROWS + STRIKER_ROWS:
            if " " not in row:
                self.assert_refused(NoRow, desk, row + "\n")

    def test_other_words(self):
        desk = with_wheels("striker disk", "spin 1")
        for row in (
            "", " ", "  ", "\n", "-", "none", "ok", "disk", "Wheel new abc", "WHEELS", "Wheels", "wheelss", "whee",
            "abc", "1", "say wheels", "hello", "book", "back", "turn 1", "help", "wheels\nwheels", "wheels;", "~",
            "words", "hits cab", "name", "held", "turns", "number", "signs", "glass", "near disk a", "quit", "reach",
            "spread", "show-disk",
        ):
            self.assert_refused(NoRow, desk, row)
        for mark in [chr(code) for code in range(32, 127)] + FOREIGN:
            self.assert_refused(NoRow, desk, mark)
            self.assert_refused(NoRow, desk, mark + "wheels")
            self.assert_refused(NoRow, desk, "wheels" + mark)

    def test_what_is_no_text(self):
        for desk in (Desk(), with_wheels("striker disk", "spin 1")):
            for thing in NO_TEXTS + [["wheels"], ("wheels",), [["wheels"]], b"wheels", ["wheel", "new", "abc"]]:
                self.assert_refused(NoRow, desk, thing)

    def test_ahead_of_all_else(self):
        desk = Desk()
        for row in (
            "wheel A", "wheel A abc x", "drop A B", "slack 01", "slack -10", "word A B", "show A B", "alike A",
            "plan A", "plan A B C", "cost A", "start A", "strike A", "strike A 01", "strike A x", "joint A B",
            "finder A B", "striker A B", "hit A B", "spin 01", "undo x", "alike zzz", "wheel zzz",
        ):
            self.assert_refused(NoRow, desk, row)


class NoNameTest(DeskTest):
    def test_names_that_are_none(self):
        desk = with_wheels("striker disk", "spin 1")
        for name in NO_NAMES:
            for row in (
                "wheel {} abc", "wheel {} A", "drop {}", "show {}", "alike {} disk", "alike disk {}", "alike {} {}",
                "plan {} cab", "plan {} A", "plan {} z", "cost {} cab", "start {} cab", "strike {} 1", "strike {} none",
                "finder {}", "striker {}", "cost {} -", "start {} A",
            ):
                self.assert_refused(NoName, desk, row.replace("{}", name))

    def test_names_that_do_not_stand(self):
        desk = with_wheels("striker disk", "spin 1")
        for name in ("zzz", "dis", "diskk", "a", "abcdefgh", "rimdisk", "none"):
            for row in (
                "drop {}", "show {}", "alike {} disk", "alike disk {}", "alike {} {}", "plan {} cab", "plan {} A",
                "plan {} z", "cost {} A", "start {} z", "strike {} 1", "strike {} none", "finder {}", "striker {}",
            ):
                self.assert_refused(NoName, desk, row.replace("{}", name))
            self.assert_says(desk, "wheel " + name + " abc", "ok")
            self.assert_says(desk, "drop " + name, "ok")
            self.assert_refused(NoName, desk, "show " + name)

    def test_nothing_stands_at_first(self):
        for row in (
            "drop a", "show a", "alike a a", "plan a a", "cost a a", "start a a", "strike a 1", "finder a", "striker a",
        ):
            self.assert_refused(NoName, Desk(), row)

    def test_ahead_of_the_deeds_own_refusals(self):
        desk = with_wheels()
        for row in ("wheel A B", "wheel abcdefghi " + "a" * 31, "plan zzz " + "a" * 81, "wheel - -", "cost A zZ"):
            self.assert_refused(NoName, desk, row)


class OwnTest(DeskTest):
    def test_two_desks_side_by_side(self):
        one = told("wheel disk abcd", "slack 3", "word ab", "striker disk", "spin 1")
        other = Desk()
        self.assert_answers(other, ("wheels", "none"), ("pairs", "none"))
        self.assert_refused(NoDeed, other, "where")
        self.assert_answers(
            other, ("wheel disk dcba", "ok"), ("word cd", "ok"), ("cost disk dad", "2 1"), ("striker disk", "ok"),
            ("spin -1", "a"), ("clear", "ok"), ("drop disk", "ok"),
        )
        self.assert_answers(
            one, ("wheels", "disk"), ("show disk", "abcd"), ("pairs", "ab:1"), ("text", "b"), ("where", "1 1 1"),
            ("cost disk bab", "5 1"),
        )
        self.assert_answers(other, ("text", "a"), ("where", "3 -1 1"))

    def test_the_same_rows_have_the_same_answers(self):
        rows = PLAIN_ROWS[2:] + STRIKER_ROWS[:4] + ["where", "text", "undo", "where", "text"]
        first = [with_wheels().say(row) for row in PLAIN_ROWS]
        self.assertEqual([with_wheels().say(row) for row in PLAIN_ROWS], first)
        runs = []
        for unused in range(2):
            desk = with_wheels()
            runs.append([desk.say(row) for row in ["word ab"] + [row for row in rows if row != "clear"]])
        self.assertEqual(runs[0], runs[1])

    def test_its_own_method(self):
        self.assertIn("say", vars(Desk))

    def test_a_thousand_rows(self):
        desk = told("wheel disk strikewheel", "striker disk")
        turns = []
        for number, by in enumerate(jumble(1000, -10, 10, 2)):
            if number % 10 == 9:
                desk.say("undo")
                turns.pop()
            else:
                desk.say("spin " + str(by))
                turns.append(by)
        self.assert_says(desk, "text", struck("strikewheel", turns))


if __name__ == "__main__":
    unittest.main()
