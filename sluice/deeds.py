"""Deeds done anew: a roll is what its deeds make."""

from sluice.rolls import Roll


def do_anew(roll, deed):
    kind = deed[0]
    if kind == "turn":
        roll.turn()
    elif kind == "file":
        roll.file(deed[1], deed[2], deed[3], deed[4])
    elif kind == "sell":
        roll.sell(deed[1], deed[2], deed[3])
    elif kind == "part":
        roll.part(deed[1], deed[2], deed[3], deed[4])
    elif kind == "drop":
        roll.drop(deed[1], deed[2])
    elif kind == "move":
        roll.move(deed[1], deed[2], deed[3])
    else:
        roll.lapse(deed[1])


def replayed(below, deeds):
    roll = Roll(below)
    for deed in deeds:
        do_anew(roll, deed)
    return roll
