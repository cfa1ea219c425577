"""The roll: licences and their holders, changed by deeds alone."""

from sluice.bounds import is_name, is_water
from sluice.errors import Full, NoHolder, NoLicence, NoNumber, NoRiver, NotAlone, NotYours, TooMuch
from sluice.licences import day_filed, is_licence, most_of, with_most, with_start
from sluice.rivers import MOUTH, is_river

MOST_LICENCES = 60


def look_at_name(name):
    if not is_name(name):
        raise NoHolder("a holder is told by one to eight letters from a to z")


class Roll:
    def __init__(self, below):
        if not is_river(below):
            raise NoRiver("the list is no river")
        self.below = list(below)
        self.day = 0
        self.licences = []
        self.names = []
        self.done = []

    def today(self):
        return self.day

    def roll(self):
        return list(self.licences)

    def holders(self):
        return list(self.names)

    def deeds(self):
        return list(self.done)

    def turn(self):
        self.day += 1
        self.done.append(("turn",))

    def file(self, holder, start, most, back=None):
        look_at_name(holder)
        # A default has no sign, so -1 comes in here; deeds, too, have it where back was left out.
        stop = MOUTH if back is None else back
        one = (self.day, start, stop, most)
        if most == 0 or not is_licence(self.below, one):
            raise NoLicence("this would be no licence, or one to take nothing")
        self.look_at_room()
        self.done.append(("file", holder, start, most, stop))
        return self.enter(one, holder)

    def sell(self, number, holder, to):
        self.look_at_holder(number, holder)
        look_at_name(to)
        self.names[number] = to
        self.done.append(("sell", number, holder, to))

    def part(self, number, holder, most, to):
        self.look_at_holder(number, holder)
        look_at_name(to)
        one = self.licences[number]
        if not 1 <= most < most_of(one):
            raise TooMuch("a part is at least one drop, and leaves at least one")
        if not self.is_alone(number):
            raise NotAlone("another licence of the same day may take water, too")
        self.look_at_room()
        self.licences[number] = with_most(one, most_of(one) - most)
        self.done.append(("part", number, holder, most, to))
        return self.enter(with_most(one, most), to)

    def drop(self, number, holder):
        self.look_at_holder(number, holder)
        self.licences[number] = with_most(self.licences[number], 0)
        self.done.append(("drop", number, holder))

    def move(self, number, holder, start):
        self.look_at_holder(number, holder)
        one = with_start(self.licences[number], start)
        if not is_licence(self.below, one):
            raise NoLicence("with that start it would be no licence")
        self.look_move(number, start)
        self.licences[number] = one
        self.done.append(("move", number, holder, start))

    def look_move(self, number, start):
        return None

    def lapse(self, numbers):
        if len(numbers) != len(self.licences):
            raise NoNumber("a lapse has one number for each licence")
        if not all([is_water(amount) for amount in numbers]):
            raise TooMuch("a number of a lapse is out of its bounds")
        fallen = []
        for number, amount in enumerate(numbers):
            before = most_of(self.licences[number])
            if amount < before:
                self.licences[number] = with_most(self.licences[number], amount)
                fallen.append((number, before, amount))
        self.done.append(("lapse", tuple(numbers)))
        return fallen

    def enter(self, one, holder):
        self.licences.append(one)
        self.names.append(holder)
        return len(self.licences) - 1

    def is_alone(self, number):
        day = day_filed(self.licences[number])
        taking = [other for other, one in enumerate(self.licences) if day_filed(one) == day and most_of(one) > 0]
        return taking == [number]

    def look_at_number(self, number):
        if not 0 <= number < len(self.licences):
            raise NoNumber("no licence has this number")

    def look_at_holder(self, number, holder):
        self.look_at_number(number)
        if self.names[number] != holder:
            raise NotYours("the licence is another holder's")

    def look_at_room(self):
        if len(self.licences) >= MOST_LICENCES:
            raise Full("the roll has no room for one more licence")
