"""Several heads on one wheel that strike one word."""

from strikewheel.bank import MOST_STANDS, MOST_WHEELS, count_stands, joint_needs, moves_to, need_joint, plan_by
from strikewheel.errors import NoPlace
from strikewheel.plans import is_whole
from strikewheel.wheels import need_wheel


def bank_of(wheel, heads):
    """Return the wheel once for each head, so that several heads are a bank whose wheels are alike."""
    return [wheel for head in heads]


def are_heads(wheel, heads):
    """Tell whether things are heads of a wheel."""
    if not isinstance(heads, list) or not 1 <= len(heads) <= MOST_WHEELS:
        return False
    if not all([is_whole(head) and 0 <= head < len(wheel) for head in heads]):
        return False
    return count_stands(bank_of(wheel, heads)) <= MOST_STANDS


def need_by_heads(wheel, heads, word):
    """Refuse what is no wheel, no heads of it, no word, or a word the wheel lacks."""
    need_wheel(wheel)
    if not are_heads(wheel, heads):
        raise NoPlace("heads are 1 to 3 places of the wheel with at most 400 stands")
    need_joint(bank_of(wheel, heads), word)


def heads_need(wheel, heads, word):
    """Return the least cost of all plans by heads, and how many plans have it."""
    need_by_heads(wheel, heads, word)
    return joint_needs(bank_of(wheel, heads), word)[0][tuple(heads)]


def heads_cost(wheel, heads, word):
    """Return the least cost of all plans by heads for the word."""
    return heads_need(wheel, heads, word)[0]


def heads_plan(wheel, heads, word):
    """Return the first of all plans by heads for the word that cost least."""
    need_by_heads(wheel, heads, word)
    return plan_by(bank_of(wheel, heads), word, tuple(heads))


def heads_many(wheel, heads, word):
    """Return how many plans by heads for the word cost least."""
    return heads_need(wheel, heads, word)[1]


def near_plan(wheel, heads, word):
    """Return the plan that takes for each sign the first of the shortest turns."""
    need_by_heads(wheel, heads, word)
    bank = bank_of(wheel, heads)
    stand = tuple(heads)
    plan = []
    for sign in word:
        tries = [(abs(turn), number, turn, after) for number, turn, after in moves_to(bank, stand, sign)]
        size, number, turn, stand = min(tries)
        plan.append((number, turn))
    return plan
