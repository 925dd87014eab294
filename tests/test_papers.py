"""Promise 13: papers, when one is let by, and the floor that it shows."""

import itertools
import unittest

from samples import AskingTest, NO_SLACKS, NO_WHEELS, NO_WORDS, all_plans, price
from strikewheel.errors import Lacks, NoSlack, NoWheel, NoWord
from strikewheel.least import least_cost, table
from strikewheel.papers import floor_by, let_by

ALPHABET = "abcdefghijklmnopqrstuvwxyz"

TASKS = [
    ("a", "", 0), ("a", "aaa", 9), ("abc", "", 4), ("abc", "c", 0), ("abc", "cab", 2), ("ab", "ba", 1),
    ("aab", "aba", 3), ("abab", "bba", 0), ("abcd", "dbca", 1), ("aaa", "aaa", 5), ("abcab", "bcca", 9),
]
GREAT = (ALPHABET + "abcd", ("thequickbrownfoxjumpsoverthelazydog" * 3)[:80], 3)


def way_behind(way, turn):
    """The way behind a turn."""
    return way if turn == 0 else 1 if turn > 0 else -1


def stands_by_plans(wheel, word):
    """The rows of stands to which plans for the word's beginnings lead, each rising."""
    rows = []
    for count in range(len(word) + 1):
        found = set()
        for plan in all_plans(wheel, word[:count]):
            way = 0
            for turn in plan:
                way = way_behind(way, turn)
            found.add((sum(plan) % len(wheel), way))
        rows.append(sorted(found))
    return rows


def passes(wheel, word, slack, paper):
    """Whether a paper is let by, each turn looked at as the document tells it."""
    if [[entry[:2] for entry in row] for row in paper] != stands_by_plans(wheel, word):
        return False
    if paper[0][0][2] > 0:
        return False
    for at, sign in enumerate(word):
        for place, way, number in paper[at]:
            for turn in range(1 - len(wheel), len(wheel)):
                there = (place + turn) % len(wheel)
                if wheel[there] != sign:
                    continue
                most = number + abs(turn) + (slack if way * turn < 0 else 0)
                for other, other_way, told in paper[at + 1]:
                    if (other, other_way) == (there, way_behind(way, turn)) and told > most:
                        return False
    return True


def changed(paper, at, index, entry):
    """A copy of a paper with one tuple changed."""
    rows = [list(row) for row in paper]
    rows[at][index] = entry
    return rows


def spots(paper):
    """All (row, index) of a paper."""
    return [(at, index) for at, row in enumerate(paper) for index in range(len(row))]


def shifted(paper, by):
    """A paper with all numbers so much greater."""
    return [[(place, way, number + by) for place, way, number in row] for row in paper]


class PaperTest(AskingTest):
    def assert_paper(self, task, paper, floor):
        self.assert_told(let_by, (*task, paper), floor is not None)
        self.assert_told(floor_by, (*task, paper), floor)

    def assert_as_told(self, task, paper):
        """Looks at a paper by the document's words and by all plans."""
        expected = passes(*task, paper)
        with self.subTest(task=task, paper=paper):
            self.assertIs(let_by(*task, paper), expected)
            floor = floor_by(*task, paper)
            if not expected:
                self.assertIsNone(floor)
                return
            self.assertEqual(floor, min(entry[2] for entry in paper[-1]))
            self.assertLessEqual(floor, min(price(plan, task[2]) for plan in all_plans(*task[:2])))

    def test_by_hand(self):
        task = ("abc", "cab", 2)
        rows = [[(0, 0, 0)], [(2, -1, 1), (2, 1, 2)], [(0, -1, 3), (0, 1, 3)], [(1, -1, 5), (1, 1, 4)]]
        self.assert_paper(task, rows, 4)
        self.assert_paper(task, shifted(rows, -1), 3)
        self.assert_paper(task, shifted(rows, 1), None)
        self.assert_paper(task, [[(0, 0, 0)], [(2, -1, 0), (2, 1, 0)], [(0, -1, 0), (0, 1, 0)],
                                 [(1, -1, 0), (1, 1, 0)]], 0)
        self.assert_paper(task, changed(rows, 3, 1, (1, 1, 5)), None)
        self.assert_paper(task, changed(rows, 3, 1, (1, 1, 3)), 3)
        self.assert_paper(task, changed(rows, 3, 0, (1, -1, -7)), -7)

    def test_the_told_table(self):
        for task in TASKS + [GREAT]:
            self.assert_paper(task, table(*task), least_cost(*task))

    def test_all_numbers_less(self):
        for task in TASKS + [GREAT]:
            for by in (1, 5, 10 ** 39):
                self.assert_paper(task, shifted(table(*task), -by), least_cost(*task) - by)

    def test_all_numbers_greater(self):
        for task in TASKS + [GREAT]:
            for by in (1, 5, 10 ** 39):
                self.assert_paper(task, shifted(table(*task), by), None)

    def test_one_number_greater(self):
        # Each number of the table is the least cost, so no turn to it leaves more.
        for task in TASKS:
            rows = table(*task)
            for at, index in spots(rows):
                place, way, number = rows[at][index]
                for by in (1, 10 ** 39):
                    self.assert_paper(task, changed(rows, at, index, (place, way, number + by)), None)

    def test_one_number_greater_in_a_great_table(self):
        rows = table(*GREAT)
        for at in (0, 1, 40, 80):
            for index, (place, way, number) in enumerate(rows[at]):
                self.assert_paper(GREAT, changed(rows, at, index, (place, way, number + 1)), None)

    def test_one_number_otherwise(self):
        for task in TASKS:
            rows = table(*task)
            for at, index in spots(rows):
                place, way, number = rows[at][index]
                for by in (-10, -3, -2, -1, 0, 1, 2):
                    self.assert_as_told(task, changed(rows, at, index, (place, way, number + by)))

    def test_two_numbers_otherwise(self):
        for task in TASKS[4:8]:
            rows = table(*task)
            for one, other in itertools.combinations(spots(rows), 2):
                for by, more in itertools.product((-2, -1, 1), repeat=2):
                    paper = rows
                    for (at, index), step in ((one, by), (other, more)):
                        place, way, number = paper[at][index]
                        paper = changed(paper, at, index, (place, way, number + step))
                    self.assert_as_told(task, paper)

    def test_numbers_low_from_a_row_on(self):
        # A low row lets by no high one behind it, whatever the table says.
        for task in TASKS:
            rows = table(*task)
            for at in range(len(rows)):
                self.assert_as_told(task, shifted(rows[:at], -2) + rows[at:])
                self.assert_as_told(task, rows[:at] + shifted(rows[at:], -2))

    def test_the_slack_counts_where_the_way_changes(self):
        task = ("abcd", "bba", 3)
        rows = [[(0, 0, 0)], [(1, -1, 3), (1, 1, 1)], [(1, -1, 3), (1, 1, 1)], [(0, -1, 5), (0, 1, 4)]]
        self.assert_paper(task, rows, None)
        self.assert_paper(task, changed(rows, 3, 0, (0, -1, 4)), 4)
        self.assert_paper(("abcd", "bba", 2), changed(rows, 3, 0, (0, -1, 4)), 4)
        self.assert_paper(("abcd", "bba", 1), changed(rows, 3, 0, (0, -1, 4)), None)
        self.assert_paper(("abcd", "bba", 1), changed(rows, 3, 0, (0, -1, 3)), 3)

    def test_a_row_left_out_or_told_twice(self):
        for task in TASKS + [GREAT]:
            rows = table(*task)
            for at in range(len(rows)) if len(rows) < 10 else (0, 40, 80):
                self.assert_paper(task, rows[:at] + rows[at + 1:], None)
                self.assert_paper(task, rows[:at + 1] + [list(rows[at])] + rows[at + 1:], None)
                self.assert_paper(task, rows[:at] + [[]] + rows[at + 1:], None)

    def test_two_tuples_exchanged(self):
        for task in TASKS:
            rows = table(*task)
            for at, row in enumerate(rows):
                for one, other in itertools.combinations(range(len(row)), 2):
                    paper = changed(changed(rows, at, one, row[other]), at, other, row[one])
                    self.assert_paper(task, paper, None)

    def test_two_rows_exchanged(self):
        task = ("abc", "cab", 2)
        rows = table(*task)
        self.assert_paper(task, [rows[0], rows[2], rows[1], rows[3]], None)
        self.assert_paper(task, rows[::-1], None)

    def test_a_tuple_left_out_or_told_twice(self):
        for task in TASKS:
            rows = table(*task)
            for at, index in spots(rows):
                row = rows[at]
                self.assert_paper(task, rows[:at] + [row[:index] + row[index + 1:]] + rows[at + 1:], None)
                self.assert_paper(task, rows[:at] + [row[:index + 1] + row[index:]] + rows[at + 1:], None)

    def test_a_place_or_a_way_changed(self):
        for task in TASKS:
            rows = shifted(table(*task), -100)
            for at, index in spots(rows):
                place, way, number = rows[at][index]
                for other in (-1, place + 1, place - 1, place + len(task[0]), 10 ** 39):
                    self.assert_paper(task, changed(rows, at, index, (other, way, number)), None)
                for other in {-2, -1, 0, 1, 2, 10 ** 39} - {way}:
                    self.assert_paper(task, changed(rows, at, index, (place, other, number)), None)

    def test_rows_that_are_no_such_stands(self):
        for task in TASKS:
            for paper in (
                [], [[]], [[], []], [[(0, 0, 0)] * 2], [[(0, 1, 0)]], [[(0, -1, 0)]], [[(1, 0, 0)]], [[(9, 9, 9)]],
                [[] for unused in table(*task)], [[(0, 0, 0)]] * (len(task[1]) + 2), [[(0, 0, -1)] * 200] * 200,
            ):
                self.assert_paper(task, paper, None)

    def test_a_table_of_another_task(self):
        for task, other in itertools.permutations(TASKS, 2):
            with self.subTest(task=task, other=other):
                self.assert_as_told(task, table(*other))

    def test_the_word_without_signs(self):
        for wheel in ("a", "abc", "z" * 30):
            for number, floor in ((0, 0), (-1, -1), (-(10 ** 39), -(10 ** 39)), (1, None), (10 ** 39, None)):
                self.assert_paper((wheel, "", 5), [[(0, 0, number)]], floor)

    def test_thirty_places_of_one_sign(self):
        task = ("z" * 30, "zzz", 9)
        rows = table(*task)
        self.assert_paper(task, rows, 0)
        place, way, number = rows[3][-1]
        self.assert_paper(task, changed(rows, 3, len(rows[3]) - 1, (place, way, number + 1)), None)


class RefusalTest(AskingTest):
    PAPERS = ([], [[(0, 0, 0)]], [[(5, 5, 5)], []])

    def assert_both(self, refusal, *task):
        for paper in self.PAPERS:
            self.assert_refused(refusal, let_by, *task, paper)
            self.assert_refused(refusal, floor_by, *task, paper)

    def test_no_wheel_goes_first(self):
        for text in NO_WHEELS:
            self.assert_both(NoWheel, text, "a", 0)
            self.assert_both(NoWheel, text, "A", 10)
            self.assert_both(NoWheel, text, "q", -1)

    def test_no_word_goes_next(self):
        for text in NO_WORDS:
            self.assert_both(NoWord, "ab", text, 0)
            self.assert_both(NoWord, "b", text, 10)

    def test_no_slack_goes_next(self):
        for slack in NO_SLACKS:
            self.assert_both(NoSlack, "ab", "ab", slack)
            self.assert_both(NoSlack, "ab", "", slack)
            self.assert_both(NoSlack, "ab", "abc", slack)

    def test_lacks_goes_last(self):
        for word in ("c", "abc", "cab", "acb", "ab" * 39 + "z"):
            self.assert_both(Lacks, "ab", word, 0)


if __name__ == "__main__":
    unittest.main()
