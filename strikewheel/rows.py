"""The desk's rows: which there are, and what they hand in."""

from strikewheel.errors import NoRow, NoText
from strikewheel.texts import read_turns

# What stands behind the first word of each row. A name is any name, a held one
# must stand at the desk already.
KINDS = {
    "wheel": ("name", "signs"),
    "drop": ("held",),
    "slack": ("number",),
    "word": ("word",),
    "clear": (),
    "wheels": (),
    "show": ("held",),
    "alike": ("held", "held"),
    "plan": ("held", "word"),
    "cost": ("held", "word"),
    "start": ("held", "word"),
    "strike": ("held", "turns"),
    "joint": ("word",),
    "best": (),
    "fair": (),
    "bar": (),
    "floor": (),
    "pairs": (),
    "finder": ("held",),
    "striker": ("held",),
    "hit": ("word",),
    "spin": ("turn",),
    "undo": (),
    "where": (),
    "text": (),
}

STRIKER_ROWS = ("hit", "spin", "undo", "where", "text")


def turns_in(part):
    """Return the turns that a part of a row tells."""
    try:
        return read_turns(part)
    except NoText:
        raise NoRow("the row has no such numbers") from None


def turn_in(part):
    """Return the one turn that a part of a row tells."""
    turns = turns_in(part)
    if len(turns) != 1:
        raise NoRow("the row needs a number there")
    return turns[0]


def number_in(part):
    """Return the number without - ahead that a part of a row tells."""
    number = turn_in(part)
    if number < 0:
        raise NoRow("the row takes no number below 0")
    return number


def word_in(part):
    """Return the word that a part of a row tells."""
    return "" if part == "-" else part


READERS = {"turns": turns_in, "turn": turn_in, "number": number_in, "word": word_in}


def read_part(kind, part):
    """Return what a part of a row hands in, names and signs being as they stand."""
    if kind not in READERS:
        return part
    reader = READERS[kind]
    return reader(part)


def parts_of(kinds, words):
    """Return the parts of a row behind its first word, turns being one part."""
    if "turns" not in kinds:
        return words
    ahead = len(kinds) - 1
    return words[:ahead] + [" ".join(words[ahead:])]


def read_row(row):
    """Return the first word of a row, and a list of what the row hands in."""
    if not isinstance(row, str):
        raise NoRow("a row is a text")
    words = row.split(" ")
    if "" in words or words[0] not in KINDS:
        raise NoRow("there is no such row")
    kinds = KINDS[words[0]]
    parts = parts_of(kinds, words[1:])
    if len(parts) != len(kinds):
        raise NoRow("the row has too many words, or too few")
    return (words[0], [read_part(kind, part) for kind, part in zip(kinds, parts)])
