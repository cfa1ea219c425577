"""Licences: which tuples are licences, how a roll of them ranks, and what they want."""

from sluice.bounds import is_water
from sluice.rivers import MOUTH, stretch_of, way_of

LAST_DAY = 1_000_000


def is_licence(below, one):
    day, start, back, most = one
    # The start goes ahead of its way, which would take one below nought for a place from the end.
    if not (0 <= day <= LAST_DAY and 0 <= start < len(below) and is_water(most)):
        return False
    return back == MOUTH or back in way_of(below, start)[1:]


def reaches_of(below, one):
    day, start, back, most = one
    return stretch_of(below, start, back)


def day_filed(one):
    return one[0]


def start_of(one):
    return one[1]


def gives_back(one):
    return one[2] != MOUTH


def most_of(one):
    return one[3]


def with_start(one, start):
    return (one[0], start, one[2], one[3])


def with_most(one, most):
    return (one[0], one[1], one[2], most)


def ranked(roll):
    return sorted(range(len(roll)), key=lambda number: (day_filed(roll[number]), number))


def groups_of(roll):
    groups = {}
    for number in ranked(roll):
        groups.setdefault(day_filed(roll[number]), []).append(number)
    return list(groups.values())


def wants_of(roll, calls):
    return [min(call, most_of(one)) for one, call in zip(roll, calls)]
