"""Dealing: the day's water, group by group of the roll, from the eldest on."""

from sluice.flows import natural_of
from sluice.licences import groups_of, reaches_of, wants_of
from sluice.turns import deal_turns


def deal(below, springs, roll, calls):
    free = natural_of(below, springs)
    wants = wants_of(roll, calls)
    takes = [0] * len(roll)
    for group in groups_of(roll):
        ways = [reaches_of(below, roll[number]) for number in group]
        dealt, free = deal_turns(free, ways, [wants[number] for number in group])
        for number, take in zip(group, dealt):
            takes[number] = take
    return takes
