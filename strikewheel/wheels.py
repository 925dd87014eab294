"""Wheels: their places, turned, in the glass, and led to one another."""

from strikewheel.errors import NoWheel
from strikewheel.signs import is_word

MOST_PLACES = 30


def is_wheel(thing):
    """Tell, of anything, whether it is a wheel."""
    return is_word(thing) and 1 <= len(thing) <= MOST_PLACES


def need_wheel(wheel):
    """Refuse what is no wheel."""
    if not is_wheel(wheel):
        raise NoWheel("a wheel is a text of 1 to 30 small letters")


def places_of(wheel, sign):
    """Return the places of a sign, rising; none for a text that is no sign."""
    need_wheel(wheel)
    return [place for place, found in enumerate(wheel) if found == sign]


def turned(wheel, k):
    """Return the wheel turned by k, any whole number."""
    need_wheel(wheel)
    first = k % len(wheel)
    return wheel[first:] + wheel[:first]


def in_glass(wheel):
    """Return the wheel in the glass."""
    need_wheel(wheel)
    # Place 0 is the one from which both ways are counted, so it stays.
    return wheel[0] + wheel[:0:-1]


def all_turned(wheel):
    """Return the wheel turned by 0, 1 and so on, for one round."""
    return [turned(wheel, k) for k in range(len(wheel))]


def least_form(wheel):
    """Return the least of all wheels that are this one turned."""
    need_wheel(wheel)
    return min(all_turned(wheel))


def kin_form(wheel):
    """Return the least of all wheels that are alike to this one."""
    need_wheel(wheel)
    return min(all_turned(wheel) + all_turned(in_glass(wheel)))


def how_led(wheel, other):
    """Return (whether by the glass, least k) that leads to the other, or None."""
    need_wheel(wheel)
    need_wheel(other)
    plain = all_turned(wheel)
    if other in plain:
        return (False, plain.index(other))
    glassed = all_turned(in_glass(wheel))
    if other in glassed:
        return (True, glassed.index(other))
    return None
