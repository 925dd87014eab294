"""Books: their signs and pairs, orders of these signs, cuts and halves."""

from strikewheel.errors import NoBook, NoOrder, TooMany
from strikewheel.signs import is_word

MOST_WORDS = 20


def is_book(thing):
    """Tell, of anything, whether it is a book."""
    if not isinstance(thing, list) or len(thing) > MOST_WORDS:
        return False
    return all([is_word(word) for word in thing])


def need_book(book):
    """Refuse what is no book."""
    if not is_book(book):
        raise NoBook("a book is a list of at most 20 words")


def signs_of(book):
    """Return the book's signs, rising, each once."""
    need_book(book)
    return "".join(sorted(set("".join(book))))


def few_signs(book, most):
    """Return the book's signs, refusing none and more than so many."""
    signs = signs_of(book)
    if not 1 <= len(signs) <= most:
        raise TooMany("the book has more signs than can be gone through, or none")
    return signs


def pairs_of(book):
    """Return all neighbours (sign, other, count), rising."""
    need_book(book)
    counts = {}
    for word in book:
        for sign, other in zip(word, word[1:]):
            if sign != other:
                pair = (min(sign, other), max(sign, other))
                counts[pair] = counts.get(pair, 0) + 1
    return [(sign, other, counts[(sign, other)]) for sign, other in sorted(counts)]


def need_order(book, order):
    """Refuse what is no book, then what is no order of it."""
    signs = signs_of(book)
    if not isinstance(order, str) or "".join(sorted(order)) != signs:
        raise NoOrder("an order has each of the book's signs once, and nothing else")


def way_between(place, other, count):
    """Return the way between two of so many places round a wheel."""
    apart = abs(place - other)
    return min(apart, count - apart)


def places_in(order):
    """Return the place of each sign of an order."""
    return {sign: place for place, sign in enumerate(order)}


def reach_by(pairs, order):
    """Return the reach of an order by the book's pairs."""
    places = places_in(order)
    ways = [count * way_between(places[sign], places[other], len(order)) for sign, other, count in pairs]
    return sum(ways)


def reach(book, order):
    """Return the sum of all counts times the way between the places, round a wheel."""
    need_order(book, order)
    return reach_by(pairs_of(book), order)


def spread(book, order):
    """Return the sum of all counts times the difference of the places, on a bar."""
    need_order(book, order)
    places = places_in(order)
    return sum([count * abs(places[sign] - places[other]) for sign, other, count in pairs_of(book)])


def cut_by(pairs, signs):
    """Return the cut of some signs by the book's pairs."""
    return sum([count for sign, other, count in pairs if (sign in signs) != (other in signs)])


def cut(book, signs):
    """Return the sum of the counts of all pairs of which just one is among the signs."""
    return cut_by(pairs_of(book), signs)


def halves(book, order):
    """Return, for each place, the half of the order from there on, going round."""
    need_order(book, order)
    half = len(order) // 2
    twice = order + order
    return [twice[place:place + half] for place in range(len(order))]
