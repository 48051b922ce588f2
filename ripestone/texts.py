"""Texts: whole numbers and stones, written and read back."""

from ripestone.errors import NoText
from ripestone.records import BLANK_RECORD, BLANK_SEAL
from ripestone.strings import is_grid

FIGURES = "0123456789"
MOST_FIGURES = 60
MINUS = "-"
ZERO = "0"
BETWEEN_NUMBERS = ","
BETWEEN_THINGS = " "
BETWEEN_PANES = ";"


# Figure by figure, since isdigit and int take figures of other scripts too, and int also blanks, + and _.
def is_number(text):
    figures = text[1:] if text.startswith(MINUS) else text
    if not 1 <= len(figures) <= MOST_FIGURES:
        return False
    if not all([sign in FIGURES for sign in figures]):
        return False
    return figures[0] != ZERO or text == ZERO


def write_number(number):
    return str(number)


def read_number(text):
    if not isinstance(text, str) or not is_number(text):
        raise NoText("this writes no number")
    return int(text)


def write_thing(thing):
    return BETWEEN_NUMBERS.join([write_number(number) for number in thing])


def write_pane(pane):
    return BETWEEN_THINGS.join([write_thing(thing) for thing in pane])


def write_stone(stone):
    return BETWEEN_PANES.join([write_pane(pane) for pane in stone])


def read_thing(text, many):
    numbers = [read_number(word) for word in text.split(BETWEEN_NUMBERS)]
    if len(numbers) != many:
        raise NoText("a thing has too few or too many numbers")
    return tuple(numbers)


def read_pane(text):
    words = text.split(BETWEEN_THINGS)
    records = [read_thing(word, len(BLANK_RECORD)) for word in words[:-1]]
    return records + [read_thing(words[-1], len(BLANK_SEAL))]


def read_stone(text):
    if not isinstance(text, str):
        raise NoText("this is no text")
    stone = [read_pane(written) for written in text.split(BETWEEN_PANES)]
    if not is_grid(stone):
        raise NoText("there are too few or too many panes or things")
    return stone
