"""Plans: turns, what they strike, and what they cost."""

from strikewheel.errors import NoSlack
from strikewheel.signs import need_word
from strikewheel.wheels import need_wheel

MOST_SLACK = 9


def is_whole(thing):
    """Tell, of anything, whether it is a whole number."""
    return isinstance(thing, int) and not isinstance(thing, bool)


def need_slack(slack):
    """Refuse what is no slack."""
    if not is_whole(slack) or not 0 <= slack <= MOST_SLACK:
        raise NoSlack("a slack is a whole number from 0 to 9")


def signs_struck(wheel, turns):
    """Return what turns strike on a wheel that is known to be one."""
    place = 0
    signs = []
    for turn in turns:
        place = (place + turn) % len(wheel)
        signs.append(wheel[place])
    return "".join(signs)


def struck(wheel, turns):
    """Return the text of signs that any whole turns strike."""
    need_wheel(wheel)
    return signs_struck(wheel, turns)


def is_plan(wheel, word, turns):
    """Tell whether the turns are a plan of the wheel for the word."""
    need_wheel(wheel)
    need_word(word)
    if not all([abs(turn) < len(wheel) for turn in turns]):
        return False
    # A turn too many or too few strikes a sign too many or too few.
    return signs_struck(wheel, turns) == word


def way_behind(way, turn):
    """Return the way behind a turn, a turn of 0 keeping the one ahead of it."""
    if turn > 0:
        return 1
    if turn < 0:
        return -1
    return way


def turn_cost(way, turn, slack):
    """Return what one turn costs where the head last went that way."""
    if turn * way < 0:
        return abs(turn) + slack
    return abs(turn)


def cost(turns, slack):
    """Return the cost of any whole turns by a slack."""
    need_slack(slack)
    total = 0
    way = 0
    for turn in turns:
        total += turn_cost(way, turn, slack)
        way = way_behind(way, turn)
    return total
