"""Days: the lets of the morning, the dealing, the evening, and the sheet that accounts for each drop."""

from sluice.dealing import deal
from sluice.flows import flows_of
from sluice.licences import gives_back
from sluice.ponds import evening, let_out, pond_calls, pond_start
from sluice.rivers import MOUTH, mouths_of


def morning_of(below, roll, ponds, kept, calls, lets):
    left = let_out(below, roll, ponds, kept, lets)
    return (left, pond_calls(roll, ponds, left, calls))


def moves_of(roll, ponds, takes, lets):
    moves = []
    for one, take in zip(roll, takes):
        day, start, back, most = one
        moves.append((start, back, take))
    for place, reach, amount in lets:
        moves.append((pond_start(roll, ponds[place]), reach, -amount))
    return moves


def used_of(roll, ponds, takes, lets):
    keepers = [number for number, room, leak in ponds]
    users = [number for number, one in enumerate(roll) if not gives_back(one) and number not in keepers]
    return sum([takes[number] for number in users]) + sum([amount for place, reach, amount in lets if reach != MOUTH])


def day_of(below, springs, roll, ponds, kept, calls, lets):
    left, dealt_by = morning_of(below, roll, ponds, kept, calls, lets)
    takes = deal(below, springs, roll, dealt_by)
    after, lost = evening(ponds, left, takes)
    flows = flows_of(below, springs, moves_of(roll, ponds, takes, lets))
    out = sum([flows[reach] for reach in mouths_of(below)])
    sheet = (sum(springs), sum(kept), used_of(roll, ponds, takes, lets), sum(after), sum(lost), out)
    return (takes, after, flows, sheet)
