"""Banks: several wheels with a head each that strike one word."""

from strikewheel.errors import Lacks, NoBank
from strikewheel.least import best_of
from strikewheel.signs import need_word
from strikewheel.wheels import is_wheel

MOST_WHEELS = 3
MOST_STANDS = 400


def count_stands(bank):
    """Return the counts of the wheels' places, multiplied."""
    count = 1
    for wheel in bank:
        count *= len(wheel)
    return count


def is_bank(bank):
    """Tell whether texts make a bank."""
    if not isinstance(bank, list) or not 1 <= len(bank) <= MOST_WHEELS:
        return False
    if not all([is_wheel(wheel) for wheel in bank]):
        return False
    return count_stands(bank) <= MOST_STANDS


def need_joint(bank, word):
    """Refuse what is no bank, no word, or a word with a sign on no wheel."""
    if not is_bank(bank):
        raise NoBank("a bank is 1 to 3 wheels with at most 400 stands")
    need_word(word)
    signs = "".join(bank)
    if not all([sign in signs for sign in word]):
        raise Lacks("no wheel has some sign of the word")


def all_stands(bank):
    """Return all tuples of places at which the heads may stand."""
    stands = [()]
    for wheel in bank:
        stands = [stand + (place,) for stand in stands for place in range(len(wheel))]
    return stands


def short_turns(wheel, place, sign):
    """Return the shortest turns from a place to each place of a sign, rising."""
    # Here no way is kept and no slack paid, so longer turns are in no least plan.
    half = len(wheel) // 2
    return [turn for turn in range(-half, half + 1) if wheel[(place + turn) % len(wheel)] == sign]


def moves_to(bank, stand, sign):
    """Return all (wheel, turn, stand then) that strike a sign by short turns, rising."""
    moves = []
    for number, wheel in enumerate(bank):
        for turn in short_turns(wheel, stand[number], sign):
            place = (stand[number] + turn) % len(wheel)
            moves.append((number, turn, stand[:number] + (place,) + stand[number + 1:]))
    return moves


def joint_need(moves, behind):
    """Return the least cost on by one of the moves, and how many plans have it."""
    found = []
    for number, turn, stand in moves:
        rest, plans = behind[stand]
        found.append((abs(turn) + rest, plans))
    return best_of(found)


def joint_needs(bank, word):
    """Return, for each number of signs struck, what the rest needs from each stand.

    A row leads from a stand to a pair: the least cost of the rest of the word
    from there, and how many plans have it.
    """
    stands = all_stands(bank)
    # A sign's moves are the same wherever in the word it stands.
    moves = {sign: {stand: moves_to(bank, stand, sign) for stand in stands} for sign in sorted(set(word))}
    rows = [{stand: (0, 1) for stand in stands}]
    for sign in reversed(word):
        behind = rows[-1]
        rows.append({stand: joint_need(moves[sign][stand], behind) for stand in stands})
    return rows[::-1]


def first_move(moves, least, behind):
    """Return the first of the moves with which the rest costs no more than least."""
    fitting = [move for move in moves if abs(move[1]) + behind[move[2]][0] == least]
    return fitting[0]


def plan_by(bank, word, stand):
    """Return the first of all joint plans from a stand of the heads that cost least."""
    rows = joint_needs(bank, word)
    plan = []
    for at, sign in enumerate(word):
        moves = moves_to(bank, stand, sign)
        number, turn, after = first_move(moves, rows[at][stand][0], rows[at + 1])
        plan.append((number, turn))
        stand = after
    return plan


def first_stand(bank):
    """Return the stand of the heads at first."""
    return tuple([0 for wheel in bank])


def joint_cost(bank, word):
    """Return the least cost of all joint plans for the word."""
    need_joint(bank, word)
    return joint_needs(bank, word)[0][first_stand(bank)][0]


def joint_plan(bank, word):
    """Return the first of all joint plans for the word that cost least."""
    need_joint(bank, word)
    return plan_by(bank, word, first_stand(bank))


def joint_many(bank, word):
    """Return how many joint plans for the word cost least."""
    need_joint(bank, word)
    return joint_needs(bank, word)[0][first_stand(bank)][1]
