"""One sign more: where it should stand on a wheel for a word, and which one."""

from strikewheel.errors import Lacks, TooMany
from strikewheel.least import least_cost
from strikewheel.plans import need_slack
from strikewheel.signs import need_word
from strikewheel.wheels import need_wheel

MOST_TO_WIDEN = 12
MOST_TO_STRIKE = 20


def with_more(wheel, place, sign):
    """Return a wheel with a sign more at a place."""
    return wheel[:place] + sign + wheel[place:]


def signs_to_add(wheel, word):
    """Return the signs of the word with one of which the wheel has them all, rising."""
    signs = sorted(set(word))
    lacking = [sign for sign in signs if sign not in wheel]
    if len(lacking) > 1:
        raise Lacks("the wheel lacks two signs of the word")
    if lacking:
        return lacking
    return signs


def best_more(wheel, word, slack):
    """Return the place, the sign and the cost of the best sign more for the word."""
    need_wheel(wheel)
    need_word(word)
    need_slack(slack)
    if len(wheel) > MOST_TO_WIDEN or not 1 <= len(word) <= MOST_TO_STRIKE:
        raise TooMany("a sign more is told for 1 to 12 places and words of 1 to 20 signs")
    tries = [
        (least_cost(with_more(wheel, place, sign), word, slack), place, sign)
        for sign in signs_to_add(wheel, word) for place in range(len(wheel) + 1)
    ]
    least, place, sign = min(tries)
    return (place, sign, least)
