"""Turns written as texts, and read."""

from strikewheel.errors import NoText

MOST_FIGURES = 9


def listed(parts):
    """Return texts with one blank between, or the word that stands for none of them."""
    if not parts:
        return "none"
    return " ".join(parts)


def show_turns(turns):
    """Return the text of turns."""
    return listed([str(turn) for turn in turns])


def is_number(text):
    """Tell whether a text is a number of 1 to 9 figures, perhaps with - ahead."""
    figures = text.removeprefix("-")
    if not 1 <= len(figures) <= MOST_FIGURES:
        return False
    # str.isdigit would also let figures by that are not 0 to 9.
    if not all(["0" <= figure <= "9" for figure in figures]):
        return False
    return figures[0] != "0" or text == "0"


def read_turns(text):
    """Return the turns that a text tells, refusing anything else."""
    if not isinstance(text, str):
        raise NoText("turns are read from a text")
    if text == "none":
        return []
    numbers = text.split(" ")
    if not all([is_number(number) for number in numbers]):
        raise NoText("turns are numbers of 1 to 9 figures with one blank between, or none")
    return [int(number) for number in numbers]
