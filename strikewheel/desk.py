"""A desk that is told rows and answers them."""

from strikewheel.bank import joint_cost
from strikewheel.bars import best_bar
from strikewheel.books import need_book, pairs_of, reach
from strikewheel.errors import NoDeed, NoName
from strikewheel.least import best_start, least_cost, least_plan, many_least
from strikewheel.lost import finder
from strikewheel.orders import best_order, fair_order, floor_of
from strikewheel.plans import need_slack, struck
from strikewheel.rows import KINDS, STRIKER_ROWS, read_row
from strikewheel.signs import is_word, need_word
from strikewheel.strikers import Striker
from strikewheel.texts import listed, show_turns
from strikewheel.wheels import how_led, need_wheel

MOST_IN_NAME = 8
DONE = "ok"


def shown(signs):
    """Return signs as the desk tells them."""
    return signs if signs else "-"


def put_wheel(desk, handed):
    """Give a name a wheel."""
    name, wheel = handed
    need_wheel(wheel)
    desk.wheels[name] = wheel
    return DONE


def drop_wheel(desk, handed):
    """Forget a name and its wheel."""
    desk.wheels.pop(handed[0])
    return DONE


def set_slack(desk, handed):
    """Take another slack."""
    need_slack(handed[0])
    desk.slack = handed[0]
    return DONE


def put_word(desk, handed):
    """Put a word behind those of the book."""
    need_word(handed[0])
    longer = desk.book + handed
    need_book(longer)
    desk.book = longer
    return DONE


def clear_book(desk, handed):
    """Forget the words of the book."""
    desk.book = []
    return DONE


def tell_wheels(desk, handed):
    """Tell the names."""
    return listed(sorted(desk.wheels))


def show_wheel(desk, handed):
    """Tell the signs of a wheel."""
    return desk.wheels[handed[0]]


def tell_alike(desk, handed):
    """Tell how the first wheel is led to the second."""
    led = how_led(desk.wheels[handed[0]], desk.wheels[handed[1]])
    if led is None:
        return "no"
    by_glass, k = led
    return f"glass {k}" if by_glass else str(k)


def tell_plan(desk, handed):
    """Tell the least plan for a word."""
    name, word = handed
    return show_turns(least_plan(desk.wheels[name], word, desk.slack))


def tell_cost(desk, handed):
    """Tell the least cost of a word and how many plans have it."""
    name, word = handed
    wheel = desk.wheels[name]
    return f"{least_cost(wheel, word, desk.slack)} {many_least(wheel, word, desk.slack)}"


def tell_start(desk, handed):
    """Tell the best start of a word."""
    name, word = handed
    place, least = best_start(desk.wheels[name], word, desk.slack)
    return f"{place} {least}"


def tell_struck(desk, handed):
    """Tell what turns strike."""
    name, turns = handed
    return shown(struck(desk.wheels[name], turns))


def tell_joint(desk, handed):
    """Tell the least cost of a word by all wheels."""
    bank = [desk.wheels[name] for name in sorted(desk.wheels)]
    return str(joint_cost(bank, handed[0]))


def tell_best(desk, handed):
    """Tell the best order and its reach."""
    order = best_order(desk.book)
    return f"{order} {reach(desk.book, order)}"


def tell_fair(desk, handed):
    """Tell the fair order and its reach."""
    order = fair_order(desk.book)
    return f"{order} {reach(desk.book, order)}"


def tell_bar(desk, handed):
    """Tell the best bar and its spread."""
    order, least = best_bar(desk.book)
    return f"{order} {least}"


def tell_floor(desk, handed):
    """Tell the floor of the reach."""
    return str(floor_of(desk.book))


def tell_pairs(desk, handed):
    """Tell the neighbours."""
    return listed([f"{sign}{other}:{count}" for sign, other, count in pairs_of(desk.book)])


def tell_finder(desk, handed):
    """Tell the finder of a wheel."""
    turns = finder(desk.wheels[handed[0]])
    if turns is None:
        return "no"
    return show_turns(turns)


def make_striker(desk, handed):
    """Have a new striker in the last one's place."""
    desk.striker = Striker(desk.wheels[handed[0]], desk.slack)
    return DONE


def hit_word(desk, handed):
    """Have the striker strike a word."""
    return show_turns(desk.striker.strike(handed[0]))


def spin_head(desk, handed):
    """Have the striker turn."""
    return desk.striker.turn(handed[0])


def undo_deed(desk, handed):
    """Have the striker take back its last deed."""
    desk.striker.back()
    return DONE


def tell_where(desk, handed):
    """Tell the striker's place, way and cost."""
    place, way = desk.striker.stand()
    return f"{place} {way} {desk.striker.spent()}"


def tell_text(desk, handed):
    """Tell the signs that the striker struck."""
    return shown(desk.striker.text())


DEEDS = {
    "wheel": put_wheel,
    "drop": drop_wheel,
    "slack": set_slack,
    "word": put_word,
    "clear": clear_book,
    "wheels": tell_wheels,
    "show": show_wheel,
    "alike": tell_alike,
    "plan": tell_plan,
    "cost": tell_cost,
    "start": tell_start,
    "strike": tell_struck,
    "joint": tell_joint,
    "best": tell_best,
    "fair": tell_fair,
    "bar": tell_bar,
    "floor": tell_floor,
    "pairs": tell_pairs,
    "finder": tell_finder,
    "striker": make_striker,
    "hit": hit_word,
    "spin": spin_head,
    "undo": undo_deed,
    "where": tell_where,
    "text": tell_text,
}


def is_name(text):
    """Tell whether a text is a name."""
    return is_word(text) and 1 <= len(text) <= MOST_IN_NAME


def need_names(desk, kinds, handed):
    """Refuse names that are none, and those that must stand but don't."""
    for kind, part in zip(kinds, handed):
        if kind in ("name", "held") and not is_name(part):
            raise NoName("a name is a word of 1 to 8 signs")
        if kind == "held" and part not in desk.wheels:
            raise NoName("no such name stands at the desk")


class Desk:
    """Named wheels, a slack, a book, and perhaps a striker."""

    def __init__(self):
        self.wheels = {}
        self.slack = 0
        self.book = []
        self.striker = None

    def say(self, row):
        """Do what a row asks for, and return the answer."""
        first, handed = read_row(row)
        if first in STRIKER_ROWS and self.striker is None:
            raise NoDeed("the desk has no striker")
        need_names(self, KINDS[first], handed)
        deed = DEEDS[first]
        return deed(self, handed)
