"""Slips: what is seen where a wheel has slipped, and the least slips that explain it."""

from strikewheel.errors import Lacks, NoTurns
from strikewheel.least import best_of
from strikewheel.plans import signs_struck
from strikewheel.signs import need_word
from strikewheel.wheels import need_wheel


def slipped_turns(turns, slips):
    """Return the turns by which the head really goes."""
    return [turn + sum([by for k, by in slips if k == number]) for number, turn in enumerate(turns)]


def seen(wheel, turns, slips):
    """Return what the turns strike with the slips."""
    need_wheel(wheel)
    return signs_struck(wheel, slipped_turns(turns, slips))


def need_as_many(turns, word):
    """Refuse turns that are not as many as the word's signs."""
    if len(turns) != len(word):
        raise NoTurns("there must be as many turns as signs")


def need_report(wheel, turns, word):
    """Refuse what is no wheel, no word, no turns for it, or a word the wheel lacks."""
    need_wheel(wheel)
    need_word(word)
    need_as_many(turns, word)
    if not all([sign in wheel for sign in word]):
        raise Lacks("the wheel lacks a sign of the word")


def places_told(wheel, turns):
    """Return the places where the head would stand behind each turn without slips."""
    places = []
    place = 0
    for turn in turns:
        place = (place + turn) % len(wheel)
        places.append(place)
    return places


def ways_on(wheel, place, off, sign):
    """Return all (by, places off then) that lead to the sign, by rising from 0, no slip.

    The head stands so many places off the told place, as slips ahead left it.
    """
    count = len(wheel)
    return [(by, (off + by) % count) for by in range(count) if wheel[(place + off + by) % count] == sign]


def slips_for(by):
    """Return how many slips it takes to go by so many places more."""
    return 1 if by > 0 else 0


def slip_need(ways, behind):
    """Return the fewest slips on by one of the ways, and how many lists have so few."""
    found = []
    for by, off in ways:
        rest, lists = behind[off]
        found.append((slips_for(by) + rest, lists))
    return best_of(found)


def slip_needs(wheel, places, word):
    """Return, for each number of signs struck, what the rest needs for each count of places off.

    A row has at each count of places off a pair: the fewest slips that explain
    the rest of the word from there, and how many lists have so few.
    """
    offs = list(range(len(wheel)))
    rows = [[(0, 1) for off in offs]]
    for place, sign in reversed(list(zip(places, word))):
        behind = rows[-1]
        rows.append([slip_need(ways_on(wheel, place, off, sign), behind) for off in offs])
    return rows[::-1]


def first_way(ways, fewest, behind):
    """Return the first of the ways with which the rest takes no more than the fewest slips."""
    fitting = [(by, off) for by, off in ways if slips_for(by) + behind[off][0] == fewest]
    # A list that slips here comes ahead of one that slips only later.
    slipping = [(by, off) for by, off in fitting if by > 0]
    return (slipping + fitting)[0]


def least_slips(wheel, turns, word):
    """Return the first of all shortest lists of slips that explain the word."""
    need_report(wheel, turns, word)
    places = places_told(wheel, turns)
    rows = slip_needs(wheel, places, word)
    slips = []
    off = 0
    for number, sign in enumerate(word):
        ways = ways_on(wheel, places[number], off, sign)
        by, off = first_way(ways, rows[number][off][0], rows[number + 1])
        if by > 0:
            slips.append((number, by))
    return slips


def many_slips(wheel, turns, word):
    """Return how many shortest lists of slips explain the word."""
    need_report(wheel, turns, word)
    return slip_needs(wheel, places_told(wheel, turns), word)[0][0][1]
