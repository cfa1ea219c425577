"""Rivers: which lists are rivers, and how their reaches lie to one another."""

from sluice.errors import NoReach

MOST_REACHES = 40
MOUTH = -1


def comes_to_mouth(below, start):
    # A way has each reach once at the most: who needs more steps than there are reaches goes round.
    reach = start
    for step in range(len(below)):
        reach = below[reach]
        if reach == MOUTH:
            return True
    return False


def is_river(below):
    if not 1 <= len(below) <= MOST_REACHES:
        return False
    # This goes ahead of the walk, which would take a number below -1 for a place from the end.
    if not all([MOUTH <= reach < len(below) for reach in below]):
        return False
    return all([comes_to_mouth(below, start) for start in range(len(below))])


def way_of(below, reach):
    way = [reach]
    while below[way[-1]] != MOUTH:
        way.append(below[way[-1]])
    return way


def above_of(below, reach):
    return [other for other in range(len(below)) if reach in way_of(below, other)]


def tops_first(below):
    return sorted(range(len(below)), key=lambda reach: (-len(way_of(below, reach)), reach))


def mouths_of(below):
    return [reach for reach in range(len(below)) if below[reach] == MOUTH]


def stretch_of(below, start, stop):
    way = way_of(below, start)
    if stop == MOUTH:
        return way
    if stop not in way:
        # The words leave the stop out: Python does not write a number of some thousand figures.
        raise NoReach("the stop is not on the way of the start")
    return way[:way.index(stop)]
