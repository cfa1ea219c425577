import unittest

from samples import FORKED, MOST, check_refused, seeded, told_by, try_some_deed
from sluice.deeds import replayed
from sluice.errors import Full, NoHolder, NoLicence, NoNumber, NoRiver, NotAlone, NotYours, TooMuch
from sluice.rolls import Roll

DEEDS = [
    ("turn",), ("file", "anna", 0, 10, -1), ("turn",), ("file", "bert", 7, 20, 5), ("sell", 0, "anna", "dora"),
    ("part", 1, "bert", 5, "emil"), ("drop", 0, "dora"), ("move", 2, "emil", 2), ("lapse", (9, MOST, 3)), ("turn",),
]


class EachDeed(unittest.TestCase):
    def test_no_deeds(self):
        self.assertEqual(told_by(replayed([-1], [])), (0, [], [], []))

    def test_all_of_them(self):
        roll = replayed(FORKED, DEEDS)
        self.assertIs(type(roll), Roll)
        licences = [(1, 0, -1, 0), (2, 7, 5, 15), (2, 2, 5, 3)]
        self.assertEqual(told_by(roll), (3, licences, ["dora", "bert", "emil"], DEEDS))

    def test_each_beginning_of_them(self):
        for count in range(len(DEEDS) + 1):
            self.assertEqual(replayed(FORKED, DEEDS[:count]).deeds(), DEEDS[:count])

    def test_no_river(self):
        for below in ([], [0], [1, 0], [-2], [1]):
            check_refused(self, NoRiver, replayed, below, [])
            check_refused(self, NoRiver, replayed, below, [("drop", 0, "anna")])


class Refused(unittest.TestCase):
    def check(self, refusal, deed):
        """The deed is refused so behind good ones, and with good ones behind it."""
        check_refused(self, refusal, replayed, list(FORKED), DEEDS + [deed])
        check_refused(self, refusal, replayed, list(FORKED), DEEDS + [deed, ("turn",)])

    def test_a_deed_that_is_refused_when_it_is_done_anew(self):
        self.check(NoHolder, ("file", "Anna", 0, 10, -1))
        self.check(NoLicence, ("file", "anna", 0, 0, -1))
        self.check(NoLicence, ("file", "anna", 0, 10, 0))
        self.check(NoNumber, ("sell", 3, "anna", "bert"))
        self.check(NotYours, ("sell", 0, "anna", "bert"))
        self.check(NoHolder, ("sell", 0, "dora", ""))
        self.check(TooMuch, ("part", 1, "bert", 15, "anna"))
        self.check(NotAlone, ("part", 1, "bert", 14, "anna"))
        self.check(NoNumber, ("part", -1, "bert", 14, "anna"))
        self.check(NoNumber, ("drop", 10 ** 5000, "bert"))
        self.check(NotYours, ("drop", 1, "emil"))
        self.check(NoLicence, ("move", 1, "bert", 5))
        self.check(NoNumber, ("lapse", (1, 2)))
        self.check(TooMuch, ("lapse", (1, 2, -1)))

    def test_full(self):
        filings = [("file", "anna", 0, 10, -1)] * 60
        self.assertEqual(len(replayed(FORKED, filings).roll()), 60)
        check_refused(self, Full, replayed, list(FORKED), filings + [("file", "anna", 0, 10, -1)])

    def test_the_first_refused_one_tells_it(self):
        deeds = [("drop", 0, "anna"), ("file", "Anna", 0, 10, -1)]
        check_refused(self, NoNumber, replayed, list(FORKED), deeds)
        check_refused(self, NoHolder, replayed, list(FORKED), deeds[::-1])


class DoneAnew(unittest.TestCase):
    def test_many_rolls_are_what_their_deeds_make(self):
        dice = seeded(36)
        kinds = dict.fromkeys(("turn", "file", "sell", "part", "drop", "move", "lapse"), 0)
        for case in range(60):
            roll = Roll(FORKED)
            for turn in range(80):
                try_some_deed(dice, roll, FORKED)
            for deed in roll.deeds():
                kinds[deed[0]] += 1
            self.assertEqual(told_by(replayed(FORKED, roll.deeds())), told_by(roll))
        self.assertGreater(min(kinds.values()), 10)

    def test_a_filing_whose_back_was_left_out(self):
        left_out, told = Roll(FORKED), Roll(FORKED)
        left_out.file("anna", 7, 10)
        told.file("anna", 7, 10, -1)
        for roll in (left_out, told):
            self.assertEqual(roll.deeds(), [("file", "anna", 7, 10, -1)])
            self.assertEqual(told_by(replayed(FORKED, roll.deeds())), told_by(told))

    def test_the_rolls_are_apart(self):
        roll = replayed(FORKED, DEEDS)
        again = replayed(FORKED, roll.deeds())
        before = told_by(roll)
        again.turn()
        again.drop(1, "bert")
        again.file("fred", 0, 3)
        self.assertEqual(told_by(roll), before)
        behind = told_by(again)
        roll.sell(2, "emil", "anna")
        self.assertEqual(told_by(again), behind)

    def test_what_is_handed_in_is_not_kept(self):
        below, deeds = list(FORKED), list(DEEDS)
        roll = replayed(below, deeds)
        self.assertEqual((below, deeds), (FORKED, DEEDS))
        before = told_by(roll)
        below.clear()
        deeds.clear()
        self.assertEqual(told_by(roll), before)
        self.assertEqual(roll.file("fred", 7, 3, 2), 3)


if __name__ == "__main__":
    unittest.main()
