"""Things that several test files ask about."""

# Every mark from the blank to the ~ that is no small letter, and line ends.
NO_SIGNS = [chr(code) for code in range(32, 127) if not 97 <= code <= 122]
NO_SIGNS += ["\n", "\r", "\r\n"]

# Small letters in Python's eyes, or neighbours of a and z, but no signs.
FOREIGN = ["\u00e9", "\u00df", "\u00aa", "\u0430", "\uff41"]

NO_TEXTS = [
    0, 1, -1, 7, 10 ** 39, -(10 ** 39), True, False, None,
    [], ["a"], ["a", "b"], ["abc"], [""], (), ("a",), ("a", "b"), ("abc",),
    [1, True, None, "a"], [[[[["a"]]]]], ((((("a",),),),),), [("a", ["b"])],
]


def spoilt(mark):
    """Return texts with the mark at the beginning, inside, at the end, alone."""
    return [mark + "ab", "a" + mark + "b", "ab" + mark, mark]
