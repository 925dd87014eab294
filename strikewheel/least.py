"""Least plans: the table, the least cost, the first least plan, and how many."""

from strikewheel.errors import Lacks, NoPlace
from strikewheel.plans import is_whole, need_slack, turn_cost, way_behind
from strikewheel.signs import need_word
from strikewheel.wheels import need_wheel, places_of

WAYS = (-1, 0, 1)
FIRST_STAND = (0, 0)


def need_task(wheel, word, slack):
    """Refuse what is no wheel, no word, no slack, or a word the wheel lacks."""
    need_wheel(wheel)
    need_word(word)
    need_slack(slack)
    if not all([sign in wheel for sign in word]):
        raise Lacks("the wheel lacks a sign of the word")


def turns_to(wheel, place, sign):
    """Return all turns of a plan that lead from a place to a sign, rising."""
    count = len(wheel)
    return [turn for turn in range(1 - count, count) if wheel[(place + turn) % count] == sign]


def stand_behind(wheel, stand, turn):
    """Return the stand to which a turn leads."""
    place, way = stand
    return ((place + turn) % len(wheel), way_behind(way, turn))


def next_row(wheel, row, sign, slack):
    """Return the row of a table behind a row, one sign further on."""
    least = {}
    for place, way, spent in row:
        for turn in turns_to(wheel, place, sign):
            stand = stand_behind(wheel, (place, way), turn)
            total = spent + turn_cost(way, turn, slack)
            if stand not in least or total < least[stand]:
                least[stand] = total
    return [(place, way, least[(place, way)]) for place, way in sorted(least)]


def table(wheel, word, slack):
    """Return, for each number of signs struck, the stands and their least costs."""
    need_task(wheel, word, slack)
    rows = [[(0, 0, 0)]]
    for sign in word:
        rows.append(next_row(wheel, rows[-1], sign, slack))
    return rows


def places_at(wheel, word, at):
    """Return the places where the head may stand with so many signs struck."""
    if at == 0:
        return list(range(len(wheel)))
    return places_of(wheel, word[at - 1])


def best_of(found):
    """Return the least cost of pairs (cost, how many plans), and how many plans have it."""
    least = min([total for total, plans in found])
    return (least, sum([plans for total, plans in found if total == least]))


def need_on(wheel, stand, turns, slack, behind):
    """Return the least cost on from a stand by one of the turns, and how many plans have it."""
    found = []
    for turn in turns:
        rest, plans = behind[stand_behind(wheel, stand, turn)]
        found.append((turn_cost(stand[1], turn, slack) + rest, plans))
    return best_of(found)


def row_ahead(wheel, places, sign, slack, behind):
    """Return the needs of all stands at the places, from those one sign further on."""
    row = {}
    for place in places:
        turns = turns_to(wheel, place, sign)
        for way in WAYS:
            row[(place, way)] = need_on(wheel, (place, way), turns, slack, behind)
    return row


def needs(wheel, word, slack):
    """Return, for each number of signs struck, what the rest needs from each stand.

    A row leads from a stand to a pair: the least cost of the rest of the word
    from there, and how many lists of turns have it.
    """
    # From the end to the beginning, so that one run answers for all first stands.
    rows = [{(place, way): (0, 1) for place in places_at(wheel, word, len(word)) for way in WAYS}]
    for at in reversed(range(len(word))):
        rows.append(row_ahead(wheel, places_at(wheel, word, at), word[at], slack, rows[-1]))
    return rows[::-1]


def first_turn(wheel, stand, sign, slack, least, behind):
    """Return the least turn to the sign with which the rest costs no more than least."""
    fitting = [
        turn for turn in turns_to(wheel, stand[0], sign)
        if turn_cost(stand[1], turn, slack) + behind[stand_behind(wheel, stand, turn)][0] == least
    ]
    return fitting[0]


def plan_from(wheel, word, slack, stand):
    """Return the first of all lists of turns that strike the word from a stand at least cost."""
    rows = needs(wheel, word, slack)
    plan = []
    for at, sign in enumerate(word):
        turn = first_turn(wheel, stand, sign, slack, rows[at][stand][0], rows[at + 1])
        plan.append(turn)
        stand = stand_behind(wheel, stand, turn)
    return plan


def least_cost(wheel, word, slack):
    """Return the least cost of all plans for the word."""
    need_task(wheel, word, slack)
    return needs(wheel, word, slack)[0][FIRST_STAND][0]


def least_plan(wheel, word, slack):
    """Return the first of all plans for the word that cost least."""
    need_task(wheel, word, slack)
    return plan_from(wheel, word, slack, FIRST_STAND)


def many_least(wheel, word, slack):
    """Return how many plans for the word cost least."""
    need_task(wheel, word, slack)
    return needs(wheel, word, slack)[0][FIRST_STAND][1]


def cost_from(wheel, word, slack, place):
    """Return the least cost of the word with the head at a place at first."""
    need_task(wheel, word, slack)
    if not is_whole(place) or not 0 <= place < len(wheel):
        raise NoPlace("the wheel has no such place")
    return needs(wheel, word, slack)[0][(place, 0)][0]


def best_start(wheel, word, slack):
    """Return the least place from which the word costs least, and that cost."""
    need_task(wheel, word, slack)
    first = needs(wheel, word, slack)[0]
    least, best = min([(first[(place, 0)][0], place) for place in range(len(wheel))])
    return (best, least)
