"""The bounds that several parts of the program ask for."""

MOST_WATER = 1_000_000_000_000


def is_water(amount):
    return 0 <= amount <= MOST_WATER
