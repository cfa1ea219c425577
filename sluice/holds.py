"""Holds: what the takes of a roll hold in each reach, and what they leave free there."""

from sluice.flows import natural_of
from sluice.licences import reaches_of


def holds_of(below, roll, takes):
    holds = [0] * len(below)
    for one, take in zip(roll, takes):
        for reach in reaches_of(below, one):
            holds[reach] += take
    return holds


def free_of(below, springs, roll, takes):
    natural = natural_of(below, springs)
    return [flow - held for flow, held in zip(natural, holds_of(below, roll, takes))]
