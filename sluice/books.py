"""The book: a roll with ponds, with the days that were run, and with closings."""

from sluice.bounds import is_water
from sluice.days import day_of, morning_of
from sluice.errors import Fixed, Harms, NoDay, NoNumber, NoPond
from sluice.licences import gives_back, most_of
from sluice.moves import harm_of
from sluice.papers import paper_of
from sluice.ponds import WHOLE
from sluice.rolls import Roll

MOST_PONDS = 10


def greatest_of(before, calls):
    # The roll only grows: who came since the earlier days stands behind all that they had calls of.
    longer = before + [0] * (len(calls) - len(before))
    return [max(call, other) for call, other in zip(calls, longer)]


class Book(Roll):
    def __init__(self, below):
        Roll.__init__(self, below)
        self.dug = []
        self.keeps = []
        self.ran = []
        self.last = None
        self.greatest = []

    def pond(self, number, holder, room, leak=0):
        self.look_at_holder(number, holder)
        if gives_back(self.licences[number]) or self.has_pond(number):
            raise NoPond("the licence gives back, or has a pond")
        if len(self.dug) >= MOST_PONDS:
            raise NoPond("there are as many ponds as there may be")
        if not (is_water(room) and 0 <= leak <= WHOLE):
            raise NoPond("the room or the leak is out of its bounds")
        self.dug.append((number, room, leak))
        self.keeps.append(0)
        return len(self.dug) - 1

    def ponds(self):
        return list(self.dug)

    def kept(self):
        return list(self.keeps)

    def has_pond(self, number):
        return any([number == other for other, room, leak in self.dug])

    def run(self, springs, calls, lets=None):
        self.look_at_amounts(springs, len(self.below))
        self.look_at_amounts(calls, len(self.licences))
        lets_told = [] if lets is None else lets
        left, dealt_by = morning_of(self.below, self.licences, self.dug, self.keeps, calls, lets_told)
        told = day_of(self.below, springs, self.licences, self.dug, self.keeps, calls, lets_told)
        takes, kept, flows, sheet = told
        self.keeps = list(kept)
        self.ran.append((list(springs), dealt_by))
        self.last = (self.roll(), list(takes))
        self.greatest = greatest_of(self.greatest, calls)
        self.turn()
        return told

    def look_at_amounts(self, amounts, count):
        if len(amounts) != count or not all([is_water(amount) for amount in amounts]):
            raise NoDay("springs or calls are too few, too many or out of their bounds")

    def record(self):
        return [(list(springs), list(calls)) for springs, calls in self.ran]

    def why(self, number):
        if self.last is None:
            raise NoDay("no day was run")
        roll, takes = self.last
        if not 0 <= number < len(roll):
            raise NoNumber("the roll of the last day that was run had no such number")
        springs, calls = self.ran[-1]
        return paper_of(self.below, springs, roll, calls, takes, number)

    def look_move(self, number, start):
        if self.has_pond(number):
            raise Fixed("a licence with a pond stays where it is")
        if harm_of(self.below, self.licences, number, start, self.ran) is not None:
            raise Harms("on a day that was run the move would have left another one with less")

    def close(self):
        others = [most_of(one) for one in self.licences[len(self.greatest):]]
        fallen = self.lapse(self.greatest + others)
        self.greatest = []
        return fallen
