"""Moves of licences, and the harm that they do to others."""

from sluice.dealing import deal
from sluice.licences import with_start


def moved(roll, number, start):
    changed = list(roll)
    changed[number] = with_start(roll[number], start)
    return changed


def harm_of(below, roll, number, start, record):
    other_roll = moved(roll, number, start)
    for day, one_day in enumerate(record):
        springs, calls = one_day
        all_calls = list(calls) + [0] * (len(roll) - len(calls))
        takes = deal(below, springs, roll, all_calls)
        other_takes = deal(below, springs, other_roll, all_calls)
        for other, before, after in zip(range(len(roll)), takes, other_takes):
            if other != number and after < before:
                return (day, other, before, after)
    return None
