"""Papers: what shows a licence that it can have no more, without dealing anew."""

from sluice.cuts import dry_of
from sluice.errors import NoPaper
from sluice.holds import free_of
from sluice.licences import day_filed, reaches_of, wants_of


def comes_ahead(roll, number, nth, other, mth):
    return (day_filed(roll[number]), nth, number) < (day_filed(roll[other]), mth, other)


def stretches_of(below, roll):
    return [reaches_of(below, one) for one in roll]


def who_holds(stretches, takes, reach):
    return [number for number, take in enumerate(takes) if take > 0 and reach in stretches[number]]


def all_ahead(roll, stretches, takes, number, reach):
    following = takes[number] + 1
    holding = who_holds(stretches, takes, reach)
    # The last drop of a licence stands for all of them: its other ones come ahead of it.
    return all([comes_ahead(roll, other, takes[other], number, following) for other in holding])


def shows(below, springs, roll, takes, number, reach):
    stretches = stretches_of(below, roll)
    if reach not in stretches[number] or reach not in dry_of(below, springs, roll, takes):
        return False
    return all_ahead(roll, stretches, takes, number, reach)


def first_showing(roll, stretches, dry, takes, number):
    for reach in stretches[number]:
        if reach in dry and all_ahead(roll, stretches, takes, number, reach):
            return reach
    return None


def paper_of(below, springs, roll, calls, takes, number):
    if takes[number] == wants_of(roll, calls)[number]:
        return None
    stretches = stretches_of(below, roll)
    reach = first_showing(roll, stretches, dry_of(below, springs, roll, takes), takes, number)
    if reach is None:
        raise NoPaper("no reach shows that the licence can have no more")
    return (reach, [(other, takes[other]) for other in who_holds(stretches, takes, reach)])


def is_within(below, springs, roll, wants, takes):
    if not all([0 <= take <= want for take, want in zip(takes, wants)]):
        return False
    return all([drops >= 0 for drops in free_of(below, springs, roll, takes)])


def is_dealing(below, springs, roll, calls, takes):
    wants = wants_of(roll, calls)
    if not is_within(below, springs, roll, wants, takes):
        return False
    stretches = stretches_of(below, roll)
    dry = dry_of(below, springs, roll, takes)
    short = [number for number, take in enumerate(takes) if take < wants[number]]
    return all([first_showing(roll, stretches, dry, takes, number) is not None for number in short])
