"""Orders on a straight bar: the table of all sets of signs, and the best order."""

from strikewheel.books import cut_by, few_signs, pairs_of

MOST_FOR_BARS = 10


def all_sets(signs):
    """Return all sets of the rising signs as rising words, each behind those within it."""
    found = [""]
    for sign in signs:
        found = found + [part + sign for part in found]
    return found


def without_each(part):
    """Return what a set leaves without each one of its signs, these rising."""
    return [part.replace(sign, "") for sign in part]


def least_sums(book, signs):
    """Return for each set of signs the least sum of the cuts of all beginnings of its orders."""
    pairs = pairs_of(book)
    sums = {"": 0}
    for part in all_sets(signs)[1:]:
        sums[part] = cut_by(pairs, part) + min([sums[rest] for rest in without_each(part)])
    return sums


def bar_table(book):
    """Return all sets of the book's signs with their least sums, rising."""
    sums = least_sums(book, few_signs(book, MOST_FOR_BARS))
    return [(part, sums[part]) for part in sorted(sums)]


def best_bar(book):
    """Return the first of all orders with the least spread, and that spread."""
    signs = few_signs(book, MOST_FOR_BARS)
    sums = least_sums(book, signs)
    # Back to front an order spreads as far, so what is told of its last sign
    # by the sums holds for its first one too.
    order = ""
    left = signs
    for unused in signs:
        least, sign = min([(sums[left.replace(mark, "")], mark) for mark in left])
        order += sign
        left = left.replace(sign, "")
    return (order, sums[signs])
