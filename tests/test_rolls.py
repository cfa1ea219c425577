import unittest

from samples import FORKED, MANY_FIGURES, MOST, RIVERS, chain, check_own, check_refused, told_by
from sluice.errors import Full, NoHolder, NoLicence, NoNumber, NoRiver, NotAlone, NotYours, SluiceError, TooMuch
from sluice.rolls import Roll

NAMES = ["a", "z", "ab", "anna", "eightlet", "zzzzzzzz", "abcdefgh"]
NO_NAMES = [
    "", "ninelette", "abcdefghi", "a" * 1000, "Anna", "annA", "an na", " anna", "anna ", " ", "anna1", "1", "an-na", "~",
    "an\tna", "anna\n", "`", "{", "_",
]
NO_NUMBERS = [-1, -2, -MANY_FIGURES, 3, 4, 60, MANY_FIGURES]


def some_started():
    """Day 2; three licences, of the days 0, 0 and 2, the last one giving back."""
    roll = Roll(FORKED)
    roll.file("anna", 0, 10)
    roll.file("bert", 7, 20, 5)
    roll.turn()
    roll.turn()
    roll.file("carl", 3, 30, 5)
    return roll


class Case(unittest.TestCase):
    def refuse(self, refusal, roll, ask, *handed):
        """It is refused so, and nothing that the roll tells is another."""
        before = told_by(roll)
        check_refused(self, refusal, ask, *handed)
        self.assertEqual(told_by(roll), before)


class Beginning(Case):
    def test_day_nought_and_no_licences(self):
        for name, below in RIVERS.items():
            with self.subTest(name):
                self.assertEqual(told_by(Roll(below)), (0, [], [], []))

    def test_no_river(self):
        for below in ([], [0], [1, 0], [-2], [1], chain(41), [MANY_FIGURES], [2, -1], [-1, 1], [-MANY_FIGURES, -1]):
            check_refused(self, NoRiver, Roll, below)

    def test_the_river_handed_in_is_not_kept(self):
        below = list(FORKED)
        roll = Roll(below)
        below[0] = -1
        below.append(-1)
        self.assertEqual(roll.file("anna", 0, 10, 5), 0)
        with self.assertRaises(NoLicence):
            roll.file("anna", 8, 10)
        below.clear()
        roll.move(0, "anna", 3)
        self.assertEqual(roll.roll(), [(0, 3, 5, 10)])
        self.assertEqual(below, [])

    def test_two_rolls_of_one_river_are_apart(self):
        below = list(FORKED)
        one, other = Roll(below), Roll(below)
        one.file("anna", 0, 10)
        one.turn()
        self.assertEqual(told_by(other), (0, [], [], []))
        self.assertEqual(below, FORKED)


class Turn(Case):
    def test_the_day_grows_by_one(self):
        roll = Roll([-1])
        self.assertIsNone(roll.turn())
        self.assertEqual(told_by(roll), (1, [], [], [("turn",)]))
        roll.turn()
        self.assertEqual(told_by(roll), (2, [], [], [("turn",), ("turn",)]))

    def test_licences_stay(self):
        roll = some_started()
        before = told_by(roll)
        roll.turn()
        self.assertEqual(told_by(roll), (3, before[1], before[2], before[3] + [("turn",)]))


class File(Case):
    def test_a_new_licence_of_this_day(self):
        roll = Roll(FORKED)
        self.assertEqual(roll.file("anna", 0, 10), 0)
        roll.turn()
        self.assertEqual(roll.file("bert", 7, 20, 5), 1)
        self.assertEqual(roll.file("anna", 7, 20, 5), 2)
        self.assertEqual(roll.roll(), [(0, 0, -1, 10), (1, 7, 5, 20), (1, 7, 5, 20)])
        self.assertEqual(roll.holders(), ["anna", "bert", "anna"])
        self.assertEqual(roll.deeds(), [
            ("file", "anna", 0, 10, -1), ("turn",), ("file", "bert", 7, 20, 5), ("file", "anna", 7, 20, 5)])

    def test_back_told_as_none_and_by_its_name(self):
        roll = Roll(FORKED)
        self.assertEqual(roll.file("anna", 0, 10, -1), 0)
        self.assertEqual(roll.file("anna", 0, 10, back=3), 1)
        self.assertEqual(roll.file(holder="anna", start=0, most=10), 2)
        self.assertEqual(roll.roll(), [(0, 0, -1, 10), (0, 0, 3, 10), (0, 0, -1, 10)])

    def test_back_left_out_is_like_one_told_as_none(self):
        for start in range(8):
            left_out, told = Roll(FORKED), Roll(FORKED)
            left_out.file("anna", start, 10)
            told.file("anna", start, 10, -1)
            self.assertEqual(told_by(left_out), told_by(told))
            self.assertEqual(left_out.roll(), [(0, start, -1, 10)])
            self.assertEqual(left_out.deeds(), [("file", "anna", start, 10, -1)])

    def test_back_left_out_is_refused_like_one_told_as_none(self):
        full = Roll(FORKED)
        for number in range(60):
            full.file("anna", 0, 10)
        for refusal, roll, handed in (
            (NoHolder, full, ("Anna", 8, 0)), (NoLicence, full, ("anna", 8, 10)), (NoLicence, full, ("anna", 0, 0)),
            (Full, full, ("anna", 0, 10)), (NoLicence, Roll(FORKED), ("anna", -1, 10)),
        ):
            self.refuse(refusal, roll, roll.file, *handed)
            self.refuse(refusal, roll, roll.file, *handed, -1)

    def test_what_becomes_of_a_licence_whose_back_was_left_out(self):
        left_out, told = Roll(FORKED), Roll(FORKED)
        left_out.file("anna", 0, 10)
        told.file("anna", 0, 10, -1)
        for roll in (left_out, told):
            roll.part(0, "anna", 4, "bert")
            roll.move(1, "bert", 7)
        self.assertEqual(left_out.roll(), [(0, 0, -1, 6), (0, 7, -1, 4)])
        self.assertEqual(told_by(left_out), told_by(told))

    def test_names(self):
        roll = Roll(FORKED)
        for name in NAMES:
            roll.file(name, 0, 1)
        self.assertEqual(roll.holders(), NAMES)
        for name in NO_NAMES:
            self.refuse(NoHolder, roll, roll.file, name, 0, 1)

    def test_mosts(self):
        roll = Roll(FORKED)
        for most in (1, 2, MOST - 1, MOST):
            roll.file("anna", 0, most)
        for most in (0, -1, -MANY_FIGURES, MOST + 1, MANY_FIGURES):
            self.refuse(NoLicence, roll, roll.file, "anna", 0, most)
            self.refuse(NoLicence, roll, roll.file, "anna", 0, most, 5)

    def test_starts(self):
        roll = Roll(FORKED)
        for start in (-1, -8, 8, 9, MANY_FIGURES, -MANY_FIGURES):
            self.refuse(NoLicence, roll, roll.file, "anna", start, 10)
        for start in range(8):
            self.assertEqual(roll.file("anna", start, 10), start)

    def test_backs(self):
        roll = Roll(FORKED)
        for back in (0, 1, 2, 4, 7, 8, -2, -3, -8, MANY_FIGURES, -MANY_FIGURES):
            self.refuse(NoLicence, roll, roll.file, "anna", 0, 10, back)
        for back in (-1, 3, 5):
            roll.file("anna", 0, 10, back)

    def test_sixty_licences(self):
        roll = Roll(FORKED)
        for number in range(60):
            self.assertEqual(roll.file("anna", 0, 10), number)
        self.refuse(Full, roll, roll.file, "anna", 0, 10)
        roll.drop(7, "anna")
        roll.turn()
        self.refuse(Full, roll, roll.file, "anna", 0, 10)
        self.assertEqual(len(roll.roll()), 60)

    def test_two_things_wrong_at_once(self):
        roll = Roll(FORKED)
        self.refuse(NoHolder, roll, roll.file, "Anna", 0, 0)
        self.refuse(NoHolder, roll, roll.file, "", 8, 1)
        for number in range(60):
            roll.file("anna", 0, 10)
        self.refuse(NoHolder, roll, roll.file, "Anna", 0, 10)
        self.refuse(NoLicence, roll, roll.file, "anna", 0, 0)
        self.refuse(NoLicence, roll, roll.file, "anna", 8, 1)
        self.refuse(NoLicence, roll, roll.file, "anna", 0, 1, 0)
        self.refuse(Full, roll, roll.file, "anna", 0, 1)


class Sell(Case):
    def test_another_holder(self):
        roll = some_started()
        licences = roll.roll()
        self.assertIsNone(roll.sell(1, "bert", "dora"))
        self.assertEqual(roll.holders(), ["anna", "dora", "carl"])
        self.assertEqual(roll.roll(), licences)
        self.assertEqual(roll.deeds()[-1], ("sell", 1, "bert", "dora"))
        self.refuse(NotYours, roll, roll.sell, 1, "bert", "emil")
        roll.sell(1, "dora", "emil")
        self.assertEqual(roll.holders(), ["anna", "emil", "carl"])

    def test_to_its_own_holder(self):
        roll = some_started()
        before = told_by(roll)
        roll.sell(0, "anna", "anna")
        self.assertEqual(told_by(roll), before[:3] + (before[3] + [("sell", 0, "anna", "anna")],))

    def test_names(self):
        roll = some_started()
        holder = "anna"
        for name in NAMES:
            roll.sell(0, holder, name)
            holder = name
            self.assertEqual(roll.holders()[0], name)
        for name in NO_NAMES:
            self.refuse(NoHolder, roll, roll.sell, 0, holder, name)

    def test_the_order_of_the_refusals(self):
        roll = some_started()
        for number in NO_NUMBERS:
            self.refuse(NoNumber, roll, roll.sell, number, "anna", "bert")
            self.refuse(NoNumber, roll, roll.sell, number, "Anna", "Bert")
        for holder in ("bert", "", "Anna", "anna ", "ann"):
            self.refuse(NotYours, roll, roll.sell, 0, holder, "dora")
            self.refuse(NotYours, roll, roll.sell, 0, holder, "Dora")


class Part(Case):
    def alone(self):
        roll = Roll(FORKED)
        roll.turn()
        roll.file("anna", 0, 10, 5)
        roll.turn()
        roll.file("bert", 0, 7)
        return roll

    def test_some_of_it_becomes_a_new_licence(self):
        roll = self.alone()
        self.assertEqual(roll.part(0, "anna", 4, "carl"), 2)
        self.assertEqual(roll.roll(), [(1, 0, 5, 6), (2, 0, -1, 7), (1, 0, 5, 4)])
        self.assertEqual(roll.holders(), ["anna", "bert", "carl"])
        self.assertEqual(roll.deeds()[-1], ("part", 0, "anna", 4, "carl"))
        self.assertEqual(roll.today(), 2)

    def test_to_its_own_holder(self):
        roll = self.alone()
        self.assertEqual(roll.part(0, "anna", 4, "anna"), 2)
        self.assertEqual(roll.holders(), ["anna", "bert", "anna"])
        self.assertEqual(roll.deeds()[-1], ("part", 0, "anna", 4, "anna"))

    def test_how_much(self):
        for most in (1, 9):
            roll = self.alone()
            roll.part(0, "anna", most, "carl")
            self.assertEqual([roll.roll()[0][3], roll.roll()[2][3]], [10 - most, most])
        roll = self.alone()
        for most in (0, -1, 10, 11, MOST, MANY_FIGURES, -MANY_FIGURES):
            self.refuse(TooMuch, roll, roll.part, 0, "anna", most, "carl")

    def test_one_drop_and_none_cannot_be_parted(self):
        roll = Roll(FORKED)
        roll.file("anna", 0, 1)
        for most in (0, 1, 2, -1):
            self.refuse(TooMuch, roll, roll.part, 0, "anna", most, "carl")
        roll.drop(0, "anna")
        for most in (0, 1, -1):
            self.refuse(TooMuch, roll, roll.part, 0, "anna", most, "carl")

    def test_another_of_its_day(self):
        roll = self.alone()
        roll.file("carl", 5, 1)
        self.refuse(NotAlone, roll, roll.part, 1, "bert", 3, "dora")
        roll.part(0, "anna", 3, "dora")
        self.refuse(NotAlone, roll, roll.part, 0, "anna", 3, "dora")
        self.refuse(NotAlone, roll, roll.part, 3, "dora", 1, "anna")

    def test_another_of_its_day_with_a_most_of_nought(self):
        roll = self.alone()
        roll.file("carl", 5, 1)
        roll.drop(2, "carl")
        self.assertEqual(roll.part(1, "bert", 3, "dora"), 3)
        self.refuse(NotAlone, roll, roll.part, 1, "bert", 3, "dora")
        roll.lapse([10, 7, 1, 0])
        self.assertEqual(roll.part(1, "bert", 3, "dora"), 4)
        self.assertEqual(roll.roll()[1:], [(2, 0, -1, 1), (2, 5, -1, 0), (2, 0, -1, 0), (2, 0, -1, 3)])

    def test_the_order_of_the_refusals(self):
        roll = self.alone()
        roll.file("carl", 5, 8)
        for number in NO_NUMBERS:
            self.refuse(NoNumber, roll, roll.part, number, "Anna", 0, "Carl")
            self.refuse(NoNumber, roll, roll.part, number, "anna", 1, "carl")
        self.refuse(NotYours, roll, roll.part, 1, "anna", 99, "Carl")
        self.refuse(NotYours, roll, roll.part, 1, "anna", 1, "dora")
        self.refuse(NoHolder, roll, roll.part, 1, "bert", 99, "Carl")
        self.refuse(TooMuch, roll, roll.part, 1, "bert", 7, "dora")
        self.refuse(NotAlone, roll, roll.part, 1, "bert", 6, "dora")
        for name in NO_NAMES:
            self.refuse(NoHolder, roll, roll.part, 0, "anna", 1, name)

    def test_sixty_licences(self):
        roll = self.alone()
        roll.turn()
        for number in range(2, 60):
            roll.file("carl", 0, 10)
        self.refuse(Full, roll, roll.part, 0, "anna", 1, "dora")
        self.refuse(NotAlone, roll, roll.part, 5, "carl", 1, "dora")
        self.refuse(TooMuch, roll, roll.part, 0, "anna", 10, "dora")
        self.refuse(NoHolder, roll, roll.part, 0, "anna", 1, "Dora")
        self.refuse(NotYours, roll, roll.part, 0, "bert", 1, "dora")
        self.refuse(NoNumber, roll, roll.part, 60, "anna", 1, "dora")
        self.refuse(NoNumber, roll, roll.part, -1, "carl", 1, "dora")
        roll.drop(9, "carl")
        self.refuse(Full, roll, roll.part, 0, "anna", 1, "dora")


class Drop(Case):
    def test_its_most_becomes_nought(self):
        roll = some_started()
        self.assertIsNone(roll.drop(1, "bert"))
        self.assertEqual(roll.roll(), [(0, 0, -1, 10), (0, 7, 5, 0), (2, 3, 5, 30)])
        self.assertEqual(roll.holders(), ["anna", "bert", "carl"])
        self.assertEqual(roll.deeds()[-1], ("drop", 1, "bert"))

    def test_a_dropped_one(self):
        roll = some_started()
        roll.drop(1, "bert")
        before = told_by(roll)
        roll.drop(1, "bert")
        self.assertEqual(told_by(roll), before[:3] + (before[3] + [("drop", 1, "bert")],))

    def test_the_refusals(self):
        roll = some_started()
        for number in NO_NUMBERS:
            self.refuse(NoNumber, roll, roll.drop, number, "anna")
        for holder in ("bert", "", "Anna"):
            self.refuse(NotYours, roll, roll.drop, 0, holder)


class Move(Case):
    def test_another_start(self):
        roll = some_started()
        self.assertIsNone(roll.move(0, "anna", 7))
        roll.move(1, "bert", 2)
        self.assertEqual(roll.roll(), [(0, 7, -1, 10), (0, 2, 5, 20), (2, 3, 5, 30)])
        self.assertEqual(roll.deeds()[-2:], [("move", 0, "anna", 7), ("move", 1, "bert", 2)])
        self.assertEqual(roll.holders(), ["anna", "bert", "carl"])

    def test_to_its_own_start(self):
        roll = some_started()
        before = told_by(roll)
        roll.move(1, "bert", 7)
        self.assertEqual(told_by(roll), before[:3] + (before[3] + [("move", 1, "bert", 7)],))

    def test_a_dropped_one(self):
        roll = some_started()
        roll.drop(0, "anna")
        roll.move(0, "anna", 6)
        self.assertEqual(roll.roll()[0], (0, 6, -1, 0))

    def test_starts_with_which_it_is_none(self):
        roll = some_started()
        for start in (-1, -8, 8, MANY_FIGURES, -MANY_FIGURES):
            self.refuse(NoLicence, roll, roll.move, 0, "anna", start)
        for start in (4, 5, 6):
            self.refuse(NoLicence, roll, roll.move, 1, "bert", start)

    def test_the_order_of_the_refusals(self):
        roll = some_started()
        for number in NO_NUMBERS:
            self.refuse(NoNumber, roll, roll.move, number, "dora", 8)
        for holder in ("bert", "", "Anna"):
            self.refuse(NotYours, roll, roll.move, 0, holder, 8)
            self.refuse(NotYours, roll, roll.move, 0, holder, 1)


class LookMove(Case):
    def test_it_tells_none_and_changes_nothing(self):
        roll = some_started()
        before = told_by(roll)
        for number, start in ((0, 7), (1, 2), (0, 0), (9, 99), (-1, -MANY_FIGURES)):
            self.assertIsNone(roll.look_move(number, start))
        self.assertEqual(told_by(roll), before)

    def test_a_class_under_roll_refuses_there_behind_all_else(self):
        asked = []

        class Refusing(Roll):
            def look_move(self, number, start):
                asked.append((number, start, self.roll(), self.deeds()))
                if start == 1:
                    raise Full("not there")

        roll = Refusing(FORKED)
        roll.file("anna", 0, 10, 3)
        self.refuse(NoNumber, roll, roll.move, 1, "anna", 1)
        self.refuse(NotYours, roll, roll.move, 0, "bert", 1)
        self.refuse(NoLicence, roll, roll.move, 0, "anna", 2)
        self.assertEqual(asked, [])
        self.refuse(Full, roll, roll.move, 0, "anna", 1)
        self.assertEqual(asked, [(0, 1, [(0, 0, 3, 10)], [("file", "anna", 0, 10, 3)])])
        roll.move(0, "anna", 0)
        self.assertEqual(len(asked), 2)
        self.assertEqual(roll.roll(), [(0, 0, 3, 10)])


class Lapse(Case):
    def test_the_lesser_becomes_its_most(self):
        roll = some_started()
        self.assertEqual(roll.lapse([9, 20, 31]), [(0, 10, 9)])
        self.assertEqual(roll.roll(), [(0, 0, -1, 9), (0, 7, 5, 20), (2, 3, 5, 30)])
        self.assertEqual(roll.deeds()[-1], ("lapse", (9, 20, 31)))
        self.assertEqual((roll.today(), roll.holders()), (2, ["anna", "bert", "carl"]))

    def test_those_that_fell_are_told_rising(self):
        roll = some_started()
        told = roll.lapse((0, MOST, 1))
        self.assertEqual(told, [(0, 10, 0), (2, 30, 1)])
        self.assertIs(type(told), list)
        self.assertEqual(roll.lapse([0, 19, 0]), [(1, 20, 19), (2, 1, 0)])
        self.assertEqual(roll.lapse([0, 19, 0]), [])
        self.assertEqual(roll.deeds()[-3:], [("lapse", (0, MOST, 1)), ("lapse", (0, 19, 0)), ("lapse", (0, 19, 0))])

    def test_nothing_falls(self):
        roll = some_started()
        licences = roll.roll()
        self.assertEqual(roll.lapse([10, 20, 30]), [])
        self.assertEqual(roll.lapse([MOST, MOST, MOST]), [])
        self.assertEqual(roll.roll(), licences)
        self.assertEqual(roll.deeds()[-2:], [("lapse", (10, 20, 30)), ("lapse", (MOST, MOST, MOST))])

    def test_no_licences(self):
        roll = Roll([-1])
        self.assertEqual(roll.lapse([]), [])
        self.assertEqual(roll.lapse(()), [])
        self.assertEqual(roll.deeds(), [("lapse", ()), ("lapse", ())])
        self.refuse(NoNumber, roll, roll.lapse, [1])

    def test_not_just_one_number_for_each(self):
        roll = some_started()
        for numbers in ([], [1], [1, 2], [1, 2, 3, 4], (1, 2), (1, 2, 3, 4), [1] * 60):
            self.refuse(NoNumber, roll, roll.lapse, numbers)

    def test_numbers_out_of_bounds(self):
        roll = some_started()
        for amount in (-1, -MANY_FIGURES, MOST + 1, MANY_FIGURES):
            for place in range(3):
                numbers = [1, 1, 1]
                numbers[place] = amount
                self.refuse(TooMuch, roll, roll.lapse, numbers)
                self.refuse(TooMuch, roll, roll.lapse, tuple(numbers))
            self.refuse(NoNumber, roll, roll.lapse, [amount] * 2)
            self.refuse(NoNumber, roll, roll.lapse, [amount] * 4)

    def test_the_numbers_handed_in_are_not_kept(self):
        roll = some_started()
        numbers = [9, 20, 31]
        told = roll.lapse(numbers)
        self.assertEqual(numbers, [9, 20, 31])
        numbers[0] = 99
        numbers.clear()
        told.clear()
        self.assertEqual(roll.deeds()[-1], ("lapse", (9, 20, 31)))
        self.assertEqual(roll.roll()[0], (0, 0, -1, 9))


class ListsOfOnesOwn(Case):
    def test_lists_that_are_told(self):
        roll = some_started()
        for ask in (roll.roll, roll.holders, roll.deeds):
            check_own(self, ask)

    def test_lists_that_were_told_stay_as_they_were(self):
        roll = some_started()
        before = told_by(roll)
        as_it_was = (before[0], list(before[1]), list(before[2]), list(before[3]))
        roll.sell(0, "anna", "dora")
        roll.drop(1, "bert")
        roll.turn()
        roll.part(2, "carl", 5, "dora")
        self.assertEqual(before, as_it_was)

    def test_a_number_of_many_figures_in_a_refusal_can_be_shown(self):
        roll = some_started()
        for ask in (lambda: roll.drop(MANY_FIGURES, "anna"), lambda: roll.lapse([MANY_FIGURES] * 3)):
            try:
                ask()
            except SluiceError as refusal:
                self.assertIs(type(str(refusal)), str)


if __name__ == "__main__":
    unittest.main()
