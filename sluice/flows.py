"""Flows: what runs through each reach, by nature and behind moves of water."""

from sluice.rivers import MOUTH, stretch_of, tops_first


def natural_of(below, springs):
    flows = list(springs)
    # Tops first, a reach has all its water before it is passed on.
    for reach in tops_first(below):
        if below[reach] != MOUTH:
            flows[below[reach]] += flows[reach]
    return flows


def flows_of(below, springs, moves):
    flows = natural_of(below, springs)
    for start, stop, amount in moves:
        for reach in stretch_of(below, start, stop):
            flows[reach] -= amount
    return flows
