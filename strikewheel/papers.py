"""Papers: tables of numbers that show a floor below which no plan goes."""

from strikewheel.least import stand_behind, table, turns_to
from strikewheel.plans import turn_cost


def stands_of(row):
    """Return the stands of a row, in its order."""
    return [(place, way) for place, way, number in row]


def holds_on(wheel, sign, slack, row, behind):
    """Tell whether no number of the row behind is greater than a turn to it allows."""
    told = {(place, way): number for place, way, number in behind}
    for place, way, number in row:
        for turn in turns_to(wheel, place, sign):
            if told[stand_behind(wheel, (place, way), turn)] > number + turn_cost(way, turn, slack):
                return False
    return True


def let_by(wheel, word, slack, paper):
    """Tell whether a paper is let by for a wheel, a word and a slack."""
    rows = table(wheel, word, slack)
    if [stands_of(row) for row in paper] != [stands_of(row) for row in rows]:
        return False
    if paper[0][0][2] > 0:
        return False
    return all([holds_on(wheel, sign, slack, paper[at], paper[at + 1]) for at, sign in enumerate(word)])


def floor_by(wheel, word, slack, paper):
    """Return the floor that a paper shows, or None where it is not let by."""
    if not let_by(wheel, word, slack, paper):
        return None
    return min([number for place, way, number in paper[-1]])
