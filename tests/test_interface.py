"""The interface: every name that the document tells, with its arguments as they stand."""

import importlib
import inspect
import unittest

from samples import FORKED
from sluice.books import Book
from sluice.desk import Desk
from sluice.rolls import Roll

FUNCTIONS = {
    "rivers": [
        "is_river(below)", "way_of(below, reach)", "above_of(below, reach)", "tops_first(below)", "mouths_of(below)",
        "stretch_of(below, start, stop)",
    ],
    "flows": ["natural_of(below, springs)", "flows_of(below, springs, moves)"],
    "licences": [
        "is_licence(below, one)", "reaches_of(below, one)", "ranked(roll)", "groups_of(roll)", "wants_of(roll, calls)",
    ],
    "holds": ["holds_of(below, roll, takes)", "free_of(below, springs, roll, takes)"],
    "turns": ["whole_turns(free, ways, rests)", "deal_turns(free, ways, rests)"],
    "dealing": ["deal(below, springs, roll, calls)"],
    "papers": [
        "comes_ahead(roll, number, nth, other, mth)", "shows(below, springs, roll, takes, number, reach)",
        "paper_of(below, springs, roll, calls, takes, number)", "is_dealing(below, springs, roll, calls, takes)",
    ],
    "cuts": [
        "dry_of(below, springs, roll, takes)", "lowest_of(below, reaches)", "cut_of(below, springs, roll, calls)",
    ],
    "ponds": [
        "let_out(below, roll, ponds, kept, lets)", "pond_calls(roll, ponds, kept, calls)", "evening(ponds, kept, takes)",
    ],
    "days": ["day_of(below, springs, roll, ponds, kept, calls, lets)"],
    "deeds": ["replayed(below, deeds)"],
    "moves": ["moved(roll, number, start)", "harm_of(below, roll, number, start, record)"],
    "texts": ["read_words(row)", "read_number(word)", "read_name(word)", "show_row(numbers)"],
}
ROLL = [
    "today()", "roll()", "holders()", "deeds()", "turn()", "file(holder, start, most, back=None)",
    "sell(number, holder, to)", "part(number, holder, most, to)", "drop(number, holder)", "move(number, holder, start)",
    "look_move(number, start)", "lapse(numbers)",
]
BOOK = ROLL + [
    "pond(number, holder, room, leak=0)", "ponds()", "kept()", "run(springs, calls, lets=None)", "record()",
    "why(number)", "close()",
]


class Interface(unittest.TestCase):
    def check(self, owner, told):
        name = told.partition("(")[0]
        with self.subTest(told):
            self.assertEqual(name + str(inspect.signature(getattr(owner, name))), told)

    def test_functions(self):
        for name, functions in FUNCTIONS.items():
            for told in functions:
                self.check(importlib.import_module("sluice." + name), told)

    def test_classes(self):
        for one, methods in ((Roll(FORKED), ROLL), (Book(FORKED), BOOK), (Desk(), ["say(row)"])):
            for told in methods:
                self.check(one, told)
        self.assertEqual(str(inspect.signature(Roll)), "(below)")
        self.assertEqual(str(inspect.signature(Book)), "(below)")
        self.assertEqual(str(inspect.signature(Desk)), "()")


if __name__ == "__main__":
    unittest.main()
