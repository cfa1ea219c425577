"""The bounds that several parts of the program ask for: of amounts of water, and of names."""

MOST_WATER = 1_000_000_000_000
LONGEST_NAME = 8
LETTERS = "abcdefghijklmnopqrstuvwxyz"


def is_water(amount):
    return 0 <= amount <= MOST_WATER


def is_name(text):
    return 1 <= len(text) <= LONGEST_NAME and all([sign in LETTERS for sign in text])
