import unittest

from samples import FORKED, GREATEST_TAKE, MOST, RIVERS, chain, check_own, seeded, slow_free, slow_natural, some_amounts
from samples import some_roll
from sluice.holds import free_of, holds_of

SPRINGS = [1, 2, 4, 8, 16, 32, 64, 128]
NATURAL = [1, 2, 132, 11, 80, 175, 64, 128]
ROLL = [(0, 0, -1, 9), (3, 7, 5, 9), (1, 7, 2, 0), (1, 6, -1, 9)]


def some_takes(dice, count):
    return [dice.choice((0, GREATEST_TAKE, -GREATEST_TAKE, dice.randint(-50, 50))) for number in range(count)]


class Holds(unittest.TestCase):
    def check(self, takes, holds):
        self.assertEqual(holds_of(FORKED, ROLL, takes), holds)
        free = [flow - held for flow, held in zip(NATURAL, holds)]
        self.assertEqual(free_of(FORKED, SPRINGS, ROLL, takes), free)

    def test_no_licences(self):
        for name, below in RIVERS.items():
            with self.subTest(name):
                springs = [reach * reach for reach in range(len(below))]
                self.assertEqual(holds_of(below, [], []), [0] * len(below))
                self.assertEqual(free_of(below, springs, [], []), slow_natural(below, springs))

    def test_takes_of_nought(self):
        self.check([0, 0, 0, 0], [0] * 8)

    def test_one_that_gives_nothing_back_holds_down_to_the_mouth(self):
        self.check([5, 0, 0, 0], [5, 0, 0, 5, 0, 5, 0, 0])
        self.check([0, 0, 0, 6], [0, 0, 0, 0, 6, 0, 6, 0])

    def test_one_that_gives_back_holds_ahead_of_it(self):
        self.check([0, 7, 0, 0], [0, 0, 7, 0, 0, 0, 0, 7])
        self.check([0, 0, 8, 0], [0, 0, 0, 0, 0, 0, 0, 8])

    def test_takes_add_up(self):
        self.check([5, 7, 8, 6], [5, 0, 7, 5, 6, 5, 6, 15])

    def test_takes_of_both_signs(self):
        self.check([-5, 7, -8, 6], [-5, 0, 7, -5, 6, -5, 6, -1])

    def test_what_is_free_comes_below_nought(self):
        self.assertEqual(free_of([-1], [3], [(0, 0, -1, 9)], [3]), [0])
        self.assertEqual(free_of([-1], [3], [(0, 0, -1, 9)], [4]), [-1])
        self.assertEqual(free_of([1, -1], [0, 3], [(0, 0, 1, 9)], [4]), [-4, 3])

    def test_the_greatest_takes(self):
        roll = [(0, 0, -1, MOST)] * 60
        down = [60 * GREATEST_TAKE] * 40
        self.assertEqual(holds_of(chain(40), roll, [GREATEST_TAKE] * 60), down)
        self.assertEqual(holds_of(chain(40), roll, [-GREATEST_TAKE] * 60), [-held for held in down])
        natural = [MOST * (reach + 1) for reach in range(40)]
        left = [flow - 60 * GREATEST_TAKE for flow in natural]
        self.assertEqual(free_of(chain(40), [MOST] * 40, roll, [GREATEST_TAKE] * 60), left)

    def test_each_drop_counts_beside_the_greatest(self):
        roll = [(0, 0, -1, MOST), (0, 0, -1, MOST)]
        self.assertEqual(holds_of([-1], roll, [GREATEST_TAKE, 1 - GREATEST_TAKE]), [1])
        self.assertEqual(free_of([-1], [MOST], roll, [GREATEST_TAKE, 1 - GREATEST_TAKE]), [MOST - 1])

    def test_takes_are_not_held_to_the_most(self):
        self.assertEqual(holds_of([-1], [(0, 0, -1, 0)], [7]), [7])

    def test_every_river(self):
        dice = seeded(12)
        for name, below in RIVERS.items():
            for count in (1, 7, 60):
                with self.subTest(name, count=count):
                    roll = some_roll(dice, below, count, 9, MOST)
                    takes = some_takes(dice, count)
                    springs = some_amounts(dice, len(below), MOST)
                    free = slow_free(below, springs, roll, takes)
                    self.assertEqual(free_of(below, springs, roll, takes), free)
                    natural = slow_natural(below, springs)
                    holds = [flow - left for flow, left in zip(natural, free)]
                    self.assertEqual(holds_of(below, roll, takes), holds)


class ListsOfOnesOwn(unittest.TestCase):
    def test_all_that_tell_lists(self):
        dice = seeded(13)
        for name, below in RIVERS.items():
            with self.subTest(name):
                roll = some_roll(dice, below, 20, 5, MOST)
                takes = some_takes(dice, 20)
                springs = some_amounts(dice, len(below), MOST)
                check_own(self, holds_of, list(below), list(roll), list(takes))
                check_own(self, holds_of, list(below), [], [])
                check_own(self, free_of, list(below), list(springs), list(roll), list(takes))
                check_own(self, free_of, list(below), list(springs), [], [])


if __name__ == "__main__":
    unittest.main()
