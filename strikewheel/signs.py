"""Signs and words."""

from strikewheel.errors import NoWord

MOST_SIGNS = 80


def is_sign(mark):
    """Tell whether a text of one character is a sign."""
    # str.islower would also let letters by that are not a to z.
    return "a" <= mark <= "z"


def is_word(thing):
    """Tell, of anything, whether it is a word."""
    if not isinstance(thing, str) or len(thing) > MOST_SIGNS:
        return False
    return all([is_sign(mark) for mark in thing])


def need_word(word):
    """Refuse what is no word."""
    if not is_word(word):
        raise NoWord("a word is a text of at most 80 small letters")
