"""Lost places: where the head may have stood, and turns that find it out."""

from strikewheel.errors import TooMany
from strikewheel.plans import signs_struck
from strikewheel.signs import need_word
from strikewheel.slips import need_as_many
from strikewheel.wheels import all_turned, need_wheel

MOST_TO_FIND = 12


def words_by(wheel, turns):
    """Return the word that the turns strike from each place."""
    # From a place on a wheel strikes as from place 0 on the wheel turned to it.
    return [signs_struck(ahead, turns) for ahead in all_turned(wheel)]


def places_by(wheel, turns, word):
    """Return all places from which the turns strike the word, rising."""
    need_wheel(wheel)
    need_word(word)
    need_as_many(turns, word)
    return [place for place, struck in enumerate(words_by(wheel, turns)) if struck == word]


def tells_apart(wheel, turns):
    """Tell whether from no two places the turns strike the same word."""
    need_wheel(wheel)
    return len(set(words_by(wheel, turns))) == len(wheel)


def next_turns(turns, count):
    """Return the turns on to a place not yet struck, within the first of so many places."""
    if not turns:
        return list(range(count))
    return list(range(1, count - sum(turns)))


def one_longer(lists, count):
    """Return all lists with one turn more, rising where these are."""
    return [turns + [turn] for turns in lists for turn in next_turns(turns, count)]


def telling(wheel, lists):
    """Return those of the lists of turns that tell places apart."""
    return [turns for turns in lists if tells_apart(wheel, turns)]


def finder(wheel):
    """Return the first of the fewest turns that tell places apart, or None."""
    need_wheel(wheel)
    if len(wheel) > MOST_TO_FIND:
        raise TooMany("a finder is told of at most 12 places")
    if wheel in all_turned(wheel)[1:]:
        return None
    # Whether turns tell places apart hangs only on how far on they strike, not
    # on the order of that nor on how often. So the fewest turns strike nowhere
    # twice, and the first of them go on and never past a full round.
    lists = [[]]
    found = telling(wheel, lists)
    while not found:
        lists = one_longer(lists, len(wheel))
        found = telling(wheel, lists)
    return found[0]
