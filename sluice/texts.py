"""Texts: how the words, numbers and names of a desk are read, and how rows of numbers are written."""

from sluice.bounds import is_name
from sluice.errors import NoRow

FIGURES = "0123456789"
MOST_FIGURES = 13
PIECE = 64


def read_words(row):
    words = row.split(" ")
    if "" in words:
        raise NoRow("a row is words parted by single blanks")
    return words


def read_number(word):
    if not 1 <= len(word) <= MOST_FIGURES or not all([sign in FIGURES for sign in word]):
        raise NoRow("a number is written by one to thirteen figures")
    if word[0] == "0" and word != "0":
        raise NoRow("a number has no 0 ahead of it")
    return int(word)


def read_name(word):
    if not is_name(word):
        raise NoRow("a name is written by one to eight letters from a to z")
    return word


def show_number(number):
    # Python writes no number of some thousand figures at once, so that it is written piece by piece.
    pieces = []
    left = number
    while left >= 10 ** 64:
        left, last = divmod(left, 10 ** 64)
        pieces.append(str(last).zfill(PIECE))
    pieces.append(str(left))
    return "".join(reversed(pieces))


def show_row(numbers):
    if len(numbers) == 0:
        return "-"
    return " ".join([show_number(number) for number in numbers])
