"""Orders round a wheel: floors of their reach, the best one, a fair one."""

from strikewheel.books import cut_by, few_signs, pairs_of, reach_by, way_between

MOST_FOR_BEST = 7
MOST_FOR_HALVES = 12


def choices(signs, count):
    """Return all sets of so many of the rising signs, as rising words, rising."""
    words = [""]
    for unused in range(count):
        words = [word + sign for word in words for sign in signs if word[-1:] < sign]
    return words


def least_half(book):
    """Return the first half of the signs with the least cut, and that cut."""
    signs = few_signs(book, MOST_FOR_HALVES)
    pairs = pairs_of(book)
    least, half = min([(cut_by(pairs, part), part) for part in choices(signs, len(signs) // 2)])
    return (half, least)


def half_floor(book, count):
    """Return the floor of the reach by the least half, the book having so many signs."""
    half, least = least_half(book)
    return (count * least + 1) // 2


def pair_floor(book, count):
    """Return the floor of the reach by its pairs, the book having so many signs."""
    # Counts of 0 would stand last and add nothing, so they are left out.
    counts = sorted([often for sign, other, often in pairs_of(book)])[::-1]
    ways = sorted([way_between(place, other, count) for place in range(count) for other in range(place)])
    return sum([often * way for often, way in zip(counts, ways)])


def floor_of(book):
    """Return a number below which no order of the book reaches."""
    count = len(few_signs(book, MOST_FOR_HALVES))
    return max(half_floor(book, count), pair_floor(book, count))


def all_orders(signs):
    """Return all orders of the rising signs, rising."""
    orders = [""]
    for unused in signs:
        orders = [order + sign for order in orders for sign in signs if sign not in order]
    return orders


def best_order(book):
    """Return the first of all orders that reach least."""
    signs = few_signs(book, MOST_FOR_BEST)
    pairs = pairs_of(book)
    # An order turned reaches as far, so the first one begins with the least sign.
    orders = [signs[0] + rest for rest in all_orders(signs[1:])]
    least, best = min([(reach_by(pairs, order), order) for order in orders])
    return best


def exchanged(order, place, other):
    """Return an order with the signs at two places exchanged, the lesser place first."""
    between = order[place + 1:other]
    return order[:place] + order[other] + between + order[place] + order[other + 1:]


def best_exchange(pairs, order):
    """Return the order behind its best exchange, or itself where none makes the reach less."""
    tries = [(reach_by(pairs, order), -1, -1, order)]
    for place in range(len(order)):
        for other in range(place + 1, len(order)):
            after = exchanged(order, place, other)
            tries.append((reach_by(pairs, after), place, other, after))
    # The numbers -1 put the order as it is ahead of exchanges that better nothing.
    least, place, other, best = min(tries)
    return best


def fair_order(book):
    """Return the order to which best exchanges lead from the rising one, until none betters it."""
    order = few_signs(book, MOST_FOR_HALVES)
    pairs = pairs_of(book)
    after = best_exchange(pairs, order)
    while after != order:
        order = after
        after = best_exchange(pairs, order)
    return order
