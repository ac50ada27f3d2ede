"""Texts: how numbers, trains and stands are written and read."""

from lugtrain.errors import NoText
from lugtrain.trains import refuse_no_stand

FIGURES = "0123456789"
MOST_FIGURES = 40


def is_number(word):
    """Whether the word is a number, written as it is to be."""
    figures = word[1:] if word.startswith("-") else word
    if not 1 <= len(figures) <= MOST_FIGURES:
        return False
    if not all([sign in FIGURES for sign in figures]):
        return False
    return figures[0] != "0" or word == "0"


def are_numbers(words):
    """Whether each of the words is a number."""
    return all([is_number(word) for word in words])


def numbers_of(words):
    """The numbers that the words tell."""
    return [int(word) for word in words]


def written(numbers):
    """The numbers as words, a blank between."""
    return " ".join([str(number) for number in numbers])


def numbers_behind(name, least, row):
    """The numbers of a row of a text, behind its name, at least so many; or NoText."""
    word, *rest = row.split(" ")
    if word != name or len(rest) < least or not are_numbers(rest):
        raise NoText("a row is its name and numbers, parted by single blanks")
    return numbers_of(rest)


def read(text):
    """The plays, the handle and the wheels that the text tells."""
    rows = text.split("\n")
    if len(rows) != 2:
        raise NoText("a text has two rows, parted by a line feed")
    plays = numbers_behind("plays", 1, rows[0])
    handle, *wheels = numbers_behind("at", 2, rows[1])
    refuse_no_stand(plays, handle, wheels)
    return (plays, handle, wheels)


def shown(plays, handle, wheels):
    """The text that tells the plays, the handle and the wheels."""
    refuse_no_stand(plays, handle, wheels)
    return "\n".join(["plays " + written(plays), "at " + written([handle] + wheels)])
