"""Ponds: what they let out in the morning, call for by day and lose in the evening."""

from sluice.errors import NoPond, NoReach, TooMuch
from sluice.licences import start_of
from sluice.rivers import MOUTH, way_of

WHOLE = 1000


def pond_start(roll, pond):
    number, room, leak = pond
    return start_of(roll[number])


def look_at_let(below, roll, ponds, kept, let):
    place, reach, amount = let
    if not 0 <= place < len(ponds):
        raise NoPond("a let of a pond that is none")
    if reach != MOUTH and reach not in way_of(below, pond_start(roll, ponds[place])):
        raise NoReach("a let to a reach that is not on the way of the pond")
    if not 0 <= amount <= kept[place]:
        raise TooMuch("a let of more than the pond keeps, or of less than nought")


def let_out(below, roll, ponds, kept, lets):
    left = list(kept)
    for let in lets:
        look_at_let(below, roll, ponds, left, let)
        place, reach, amount = let
        left[place] -= amount
    return left


def pond_calls(roll, ponds, kept, calls):
    lessened = list(calls)
    for pond, keeps in zip(ponds, kept):
        number, room, leak = pond
        lessened[number] = min(calls[number], room - keeps)
    return lessened


def evening(ponds, kept, takes):
    after = []
    lost = []
    for pond, keeps in zip(ponds, kept):
        number, room, leak = pond
        full = keeps + takes[number]
        loss = full * leak // WHOLE
        after.append(full - loss)
        lost.append(loss)
    return (after, lost)
