"""The desk: it is told rows, one at a time, and answers each by a text."""

from sluice.books import Book
from sluice.bounds import is_water
from sluice.errors import Full, NoDay, NoNumber, NoPond, NoReach, NoRiver, NoRow, TooMuch
from sluice.rivers import MOST_REACHES, MOUTH
from sluice.texts import read_name, read_number, read_words, show_row

MOST_LETS = 60
OK = "ok"

# What ought to stand behind a row's first word, by a letter for each word.
NUMBER = "n"
NAME = "a"
REACH = "r"
AHEAD = {"reach": ("a", "aw"), "begin": ("",)}
BEHIND = {
    "file": ("arn", "arnr"),
    "sell": ("naa",),
    "part": ("nana",),
    "drop": ("na",),
    "move": ("nar",),
    "pond": ("nan", "nann"),
    "turn": ("",),
    "rain": ("rn",),
    "call": ("nn",),
    "let": ("nn", "nrn"),
    "run": ("",),
    "sheet": ("",),
    "flow": ("r",),
    "kept": ("n",),
    "why": ("n",),
    "close": ("",),
    "roll": ("n",),
}


def shape_of(shapes, words):
    for shape in shapes:
        if len(shape) == len(words) - 1:
            return shape
    raise NoRow("there is no such row, or not on this side of begin")


def read_word(kind, word):
    if kind == NUMBER:
        return read_number(word)
    if kind == NAME:
        return read_name(word)
    return word


def place_of(names, word):
    if word not in names:
        raise NoReach("no reach of this name was told")
    return names.index(word)


def show_rows(rows):
    return ", ".join([show_row(row) for row in rows])


def look_at_amount(amount):
    if not is_water(amount):
        raise TooMuch("more water than can be told")


def answer_reach(desk, told):
    if told[0] in desk.names or len(desk.names) >= MOST_REACHES:
        raise NoRiver("the reach was told before, or there are too many")
    # The reach below is looked at here, behind what no river can have.
    below = place_of(desk.names, told[1]) if len(told) == 2 else MOUTH
    desk.names.append(told[0])
    desk.below.append(below)
    return OK


def answer_begin(desk, told):
    desk.book = Book(desk.below)
    return OK


def answer_file(desk, told):
    back = told[3] if len(told) == 4 else MOUTH
    return show_row([desk.book.file(told[0], told[1], told[2], back)])


def answer_sell(desk, told):
    desk.book.sell(told[0], told[1], told[2])
    return OK


def answer_part(desk, told):
    return show_row([desk.book.part(told[0], told[1], told[2], told[3])])


def answer_drop(desk, told):
    desk.book.drop(told[0], told[1])
    return OK


def answer_move(desk, told):
    desk.book.move(told[0], told[1], told[2])
    return OK


def answer_pond(desk, told):
    leak = told[3] if len(told) == 4 else 0
    return show_row([desk.book.pond(told[0], told[1], told[2], leak)])


def answer_turn(desk, told):
    desk.book.turn()
    return OK


def answer_rain(desk, told):
    look_at_amount(told[1])
    desk.rains[told[0]] = told[1]
    return OK


def answer_call(desk, told):
    if told[0] >= len(desk.book.roll()):
        raise NoNumber("no licence has this number")
    look_at_amount(told[1])
    desk.calls[told[0]] = told[1]
    return OK


def answer_let(desk, told):
    if len(desk.lets) >= MOST_LETS:
        raise Full("there are as many lets as a run may have")
    reach = told[1] if len(told) == 3 else MOUTH
    desk.lets.append((told[0], reach, told[-1]))
    return OK


def answer_run(desk, told):
    # The lets are forgotten ahead of the run, since they are also where it is refused.
    lets = desk.lets
    desk.lets = []
    springs = [desk.rains.get(reach, 0) for reach in range(len(desk.names))]
    calls = [desk.calls.get(number, 0) for number in range(len(desk.book.roll()))]
    takes, kept, flows, sheet = desk.book.run(springs, calls, lets)
    desk.rains = {}
    desk.calls = {}
    desk.last = (flows, sheet)
    return show_row(takes)


def last_day(desk):
    if desk.last is None:
        raise NoDay("no day was run")
    return desk.last


def answer_sheet(desk, told):
    flows, sheet = last_day(desk)
    return show_row(sheet)


def answer_flow(desk, told):
    flows, sheet = last_day(desk)
    return show_row([flows[told[0]]])


def answer_kept(desk, told):
    kept = desk.book.kept()
    if told[0] >= len(kept):
        raise NoPond("no pond has this place")
    return show_row([kept[told[0]]])


def answer_why(desk, told):
    paper = desk.book.why(told[0])
    if paper is None:
        return "all"
    name = desk.names[paper[0]]
    if paper[1] == []:
        return f"{name}:"
    rows = show_rows(paper[1])
    return f"{name}: {rows}"


def answer_close(desk, told):
    fallen = desk.book.close()
    return show_rows(fallen) if fallen != [] else "none"


def answer_roll(desk, told):
    roll = desk.book.roll()
    if told[0] >= len(roll):
        raise NoNumber("no licence has this number")
    holder = desk.book.holders()[told[0]]
    day, start, back, most = roll[told[0]]
    start_name = desk.names[start]
    back_name = desk.names[back] if back != MOUTH else "-"
    return f"{holder} {day} {start_name} {back_name} {most}"


ANSWERS = {
    "reach": answer_reach,
    "begin": answer_begin,
    "file": answer_file,
    "sell": answer_sell,
    "part": answer_part,
    "drop": answer_drop,
    "move": answer_move,
    "pond": answer_pond,
    "turn": answer_turn,
    "rain": answer_rain,
    "call": answer_call,
    "let": answer_let,
    "run": answer_run,
    "sheet": answer_sheet,
    "flow": answer_flow,
    "kept": answer_kept,
    "why": answer_why,
    "close": answer_close,
    "roll": answer_roll,
}


class Desk:
    def __init__(self):
        self.names = []
        self.below = []
        self.book = None
        self.rains = {}
        self.calls = {}
        self.lets = []
        self.last = None

    def say(self, row):
        words = read_words(row)
        first = words[0]
        shapes = AHEAD.get(first, ()) if self.book is None else BEHIND.get(first, ())
        shape = shape_of(shapes, words)
        told = [read_word(kind, word) for kind, word in zip(shape, words[1:])]
        # All words are read ahead of all reaches: a bad number goes ahead of an unknown reach to its left.
        told = [place_of(self.names, one) if kind == REACH else one for kind, one in zip(shape, told)]
        return ANSWERS[first](self, told)
