"""Cuts: the dry reaches behind a dealing, and why no other takes come to more."""

from sluice.dealing import deal
from sluice.errors import NoCut
from sluice.flows import natural_of
from sluice.holds import free_of
from sluice.licences import gives_back, reaches_of, wants_of
from sluice.rivers import way_of


def dry_of(below, springs, roll, takes):
    return [reach for reach, drops in enumerate(free_of(below, springs, roll, takes)) if drops == 0]


def meets(reaches, others):
    return any([reach in others for reach in reaches])


def lowest_of(below, reaches):
    return [reach for reach in sorted(set(reaches)) if not meets(way_of(below, reach)[1:], reaches)]


def cut_of(below, springs, roll, calls):
    if any([gives_back(one) for one in roll]):
        raise NoCut("a licence of the roll gives back")
    dry = dry_of(below, springs, roll, deal(below, springs, roll, calls))
    lowest = lowest_of(below, dry)
    numbers = [number for number, one in enumerate(roll) if not meets(reaches_of(below, one), lowest)]
    natural = natural_of(below, springs)
    wants = wants_of(roll, calls)
    total = sum([natural[reach] for reach in lowest]) + sum([wants[number] for number in numbers])
    return (total, lowest, numbers)
