import unittest

from samples import FORKED, MANY_FIGURES, MOST, chain, check_apart, check_own, seeded, slow_deal, some_amounts, some_day
from samples import steps_down
from sluice.moves import harm_of, moved

# The licence 0, the eldest, takes at the lower reach.
TWO = [(0, 1, -1, 5), (1, 0, -1, 9)]
# The licence 3 is moved; 0, 1 and 2 take at the reaches 0, 1 and 0, and 4 at the mouth.
FIVE = [(2, 0, -1, 9), (1, 1, -1, 9), (2, 0, -1, 9), (0, 5, -1, 4), (3, 5, -1, 9)]


def slow_harm(below, roll, number, start, record):
    other_roll = list(roll)
    other_roll[number] = (roll[number][0], start) + roll[number][2:]
    for day, (springs, calls) in enumerate(record):
        called = calls + [0] * (len(roll) - len(calls))
        before, after = slow_deal(below, springs, roll, called), slow_deal(below, springs, other_roll, called)
        for other in range(len(roll)):
            if other != number and after[other] < before[other]:
                return (day, other, before[other], after[other])
    return None


class Moved(unittest.TestCase):
    def test_the_start_alone_is_another(self):
        self.assertEqual(moved(TWO, 0, 0), [(0, 0, -1, 5), (1, 0, -1, 9)])
        self.assertEqual(moved([(7, 0, 5, 3)], 0, 3), [(7, 3, 5, 3)])
        self.assertEqual(moved(FIVE, 4, 7), FIVE[:4] + [(3, 7, -1, 9)])

    def test_its_own_start(self):
        self.assertEqual(moved(TWO, 1, 0), TWO)

    def test_whatever_the_start(self):
        for start in (-1, -2, 8, 99, MANY_FIGURES, -MANY_FIGURES):
            self.assertEqual(moved(TWO, 1, start), [(0, 1, -1, 5), (1, start, -1, 9)])
        self.assertEqual(moved([(7, 0, 5, 3)], 0, 5), [(7, 5, 5, 3)])

    def test_lists_of_ones_own(self):
        check_own(self, moved, list(TWO), 0, 0)
        check_own(self, moved, list(TWO), 1, 0)


class Harm(unittest.TestCase):
    def test_no_record(self):
        self.assertIsNone(harm_of(chain(2), TWO, 0, 0, []))

    def test_another_has_less(self):
        self.assertEqual(harm_of(chain(2), TWO, 0, 0, [([5, 5], [5, 9])]), (0, 1, 5, 0))
        self.assertEqual(harm_of(chain(2), TWO, 0, 0, [([5, 5], [2, 9])]), (0, 1, 5, 3))
        told = harm_of(chain(2), TWO, 0, 0, [([5, 5], [2, 4])])
        self.assertEqual(told, (0, 1, 4, 3))
        self.assertIs(type(told), tuple)

    def test_nobody_has_less(self):
        self.assertIsNone(harm_of(chain(2), TWO, 0, 0, [([5, 5], [2, 3])]))
        self.assertIsNone(harm_of(chain(2), TWO, 0, 0, [([5, 0], [5, 9])]))
        self.assertIsNone(harm_of(chain(2), TWO, 0, 0, [([5, 5], [0, 9])]))

    def test_its_own_start(self):
        self.assertIsNone(harm_of(chain(2), TWO, 0, 1, [([5, 5], [5, 9])] * 3))

    def test_the_moved_one_may_have_less_itself(self):
        # At reach 0 nothing rises: it has none there, and nobody else has less.
        self.assertIsNone(harm_of(chain(2), TWO, 0, 0, [([0, 5], [5, 9])]))

    def test_calls_shorter_than_the_roll(self):
        self.assertIsNone(harm_of(chain(2), TWO, 0, 0, [([5, 5], [5])]))
        self.assertIsNone(harm_of(chain(2), TWO, 0, 0, [([5, 5], [])]))
        self.assertEqual(harm_of(chain(2), TWO, 0, 0, [([5, 5], [5]), ([5, 5], [5, 9])]), (1, 1, 5, 0))
        self.assertEqual(harm_of(chain(2), TWO[::-1], 1, 0, [([5, 5], [9]), ([5, 5], [9, 5])]), (1, 0, 5, 0))

    def test_the_first_day_and_the_least_number(self):
        springs = [4, 4, 0, 0, 0, 4, 0, 0]
        fair, first, later = (springs, [1, 1, 1, 2, 0]), (springs, [9, 0, 9, 2, 0]), (springs, [9, 9, 9, 4, 0])
        self.assertEqual(harm_of(FORKED, FIVE, 3, 0, [fair]), None)
        self.assertEqual(harm_of(FORKED, FIVE, 3, 0, [first]), (0, 0, 2, 1))
        self.assertEqual(harm_of(FORKED, FIVE, 3, 0, [fair, later, first]), (1, 0, 2, 0))
        self.assertEqual(harm_of(FORKED, FIVE, 3, 0, [fair, fair, first, later]), (2, 0, 2, 1))
        # The least number that has less, not the least one and not the eldest one.
        self.assertEqual(harm_of(FORKED, FIVE, 3, 1, [later]), (0, 1, 4, 0))
        self.assertEqual(harm_of(FORKED, FIVE, 3, 0, [(springs, [0, 9, 9, 2, 0])]), (0, 2, 4, 2))

    def test_drops_of_one_day_fall_otherwise(self):
        roll = [(0, 1, -1, 9), (0, 0, -1, 9), (0, 0, -1, 9)]
        self.assertEqual(harm_of([-1, -1], roll, 0, 0, [([5, 9], [9, 9, 9])]), (0, 1, 3, 2))
        self.assertEqual(harm_of([-1, -1], roll, 0, 0, [([5, 9], [9, 0, 3])]), (0, 2, 3, 2))

    def test_one_that_gives_back(self):
        roll = [(0, 1, 2, 5), (1, 0, -1, 9)]
        self.assertEqual(harm_of(chain(3), roll, 0, 0, [([5, 5, 0], [5, 9])]), (0, 1, 5, 0))

    def test_great_numbers(self):
        roll = [(0, 1, -1, MOST), (1, 0, -1, MOST)]
        self.assertEqual(harm_of(chain(2), roll, 0, 0, [([MOST, MOST], [MOST - 1, MOST])]), (0, 1, MOST, 1))

    def test_many_moves_told_once_more(self):
        dice = seeded(41)
        harms = 0
        for case in range(400):
            below, springs, roll, calls = some_day(dice, dice.choice((4, 12)), 8, 8, 2)
            if not roll:
                continue
            record = [(some_amounts(dice, len(below), 9), some_amounts(dice, dice.randint(0, len(roll)), 9))
                      for day in range(4)]
            number = dice.randrange(len(roll))
            back = roll[number][2]
            starts = [start for start in range(len(below)) if back == -1 or back in steps_down(below, start)[1:]]
            for start in starts:
                told = harm_of(below, roll, number, start, record)
                self.assertEqual(told, slow_harm(below, roll, number, start, record))
                harms += told is not None
        self.assertGreater(harms, 50)

    def test_what_is_handed_in_stays_as_it_was(self):
        check_apart(self, harm_of, chain(2), list(TWO), 0, 0, [([5, 5], [5]), ([5, 5], [5, 9])])
        check_apart(self, harm_of, chain(2), list(TWO), 0, 1, [([5, 5], [5]), ([5, 5], [5, 9])])
        check_apart(self, harm_of, chain(2), list(TWO), 0, 1, [])


if __name__ == "__main__":
    unittest.main()
