import itertools
import unittest

from samples import FORKED, GREATEST_TAKE, MOST, RIVERS, chain, check_apart, check_own, check_refused, seeded, slow_free
from samples import slow_stretch, slow_wants, some_day, steps_down
from sluice.cuts import cut_of, dry_of, lowest_of
from sluice.dealing import deal
from sluice.errors import NoCut


class Dry(unittest.TestCase):
    def test_none(self):
        self.assertEqual(dry_of(FORKED, [1] * 8, [], []), [])
        self.assertEqual(dry_of([-1], [5], [(0, 0, -1, 9)], [4]), [])

    def test_all(self):
        self.assertEqual(dry_of(FORKED, [0] * 8, [], []), list(range(8)))
        self.assertEqual(dry_of(chain(3), [4, 0, 0], [(0, 0, -1, 9)], [4]), [0, 1, 2])

    def test_some_rising(self):
        springs = [4, 1, 0, 0, 0, 0, 0, 3]
        self.assertEqual(dry_of(FORKED, springs, [], []), [4, 6])
        self.assertEqual(dry_of(FORKED, springs, [(0, 7, 5, 9)], [3]), [2, 4, 6, 7])
        self.assertEqual(dry_of([-1, 0, 1], [1, 0, 2], [(0, 2, -1, 9)], [2]), [1, 2])

    def test_just_nought_and_nothing_below_it(self):
        self.assertEqual(dry_of([-1], [5], [(0, 0, -1, 9)], [5]), [0])
        self.assertEqual(dry_of([-1], [5], [(0, 0, -1, 9)], [6]), [])
        self.assertEqual(dry_of([-1], [MOST], [(0, 0, -1, 9)], [GREATEST_TAKE]), [])
        self.assertEqual(dry_of([-1], [0], [(0, 0, -1, 9)] * 2, [GREATEST_TAKE, -GREATEST_TAKE]), [0])

    def test_many(self):
        dice = seeded(22)
        for case in range(100):
            below, springs, roll, calls = some_day(dice, dice.choice((3, MOST)))
            takes = deal(below, springs, roll, calls)
            free = slow_free(below, springs, roll, takes)
            expected = [reach for reach in range(len(below)) if free[reach] == 0]
            self.assertEqual(dry_of(below, springs, roll, takes), expected)


class Lowest(unittest.TestCase):
    def test_the_empty_list(self):
        for below in RIVERS.values():
            self.assertEqual(lowest_of(below, []), [])

    def test_one(self):
        for reach in range(8):
            self.assertEqual(lowest_of(FORKED, [reach]), [reach])

    def test_the_same_reach_several_times(self):
        self.assertEqual(lowest_of(FORKED, [3, 3]), [3])
        self.assertEqual(lowest_of(FORKED, [3, 0, 3, 0, 7, 7]), [3, 7])
        self.assertEqual(lowest_of([-1], [0] * 100), [0])

    def test_one_below_another(self):
        self.assertEqual(lowest_of(FORKED, [0, 3]), [3])
        self.assertEqual(lowest_of(FORKED, [5, 0]), [5])
        self.assertEqual(lowest_of(FORKED, [0, 5, 7]), [5])
        self.assertEqual(lowest_of(chain(40), list(range(40))), [39])

    def test_side_by_side_rising(self):
        self.assertEqual(lowest_of(FORKED, [7, 1, 0]), [0, 1, 7])
        self.assertEqual(lowest_of(FORKED, [6, 3, 1, 2]), [2, 3, 6])
        self.assertEqual(lowest_of([-1] * 40, list(range(39, -1, -1))), list(range(40)))

    def test_a_hundred_reaches(self):
        dice = seeded(23)
        for name, below in RIVERS.items():
            reaches = [dice.randrange(len(below)) for place in range(100)]
            with self.subTest(name):
                lower = {reach: set(steps_down(below, reach)[1:]) for reach in reaches}
                expected = sorted(reach for reach in set(reaches) if not lower[reach] & set(reaches))
                self.assertEqual(lowest_of(below, reaches), expected)
                some = reaches[:3]
                expected = sorted(reach for reach in set(some) if not lower[reach] & set(some))
                self.assertEqual(lowest_of(below, some), expected)


class Cuts(unittest.TestCase):
    def test_no_licences(self):
        self.assertEqual(cut_of([-1], [5], [], []), (0, [], []))
        self.assertEqual(cut_of([-1], [0], [], []), (0, [0], []))
        self.assertEqual(cut_of(FORKED, [0, 0, 0, 1, 0, 0, 0, 0], [], []), (0, [0, 1, 2, 4], []))

    def test_nobody_short(self):
        told = cut_of([1, -1], [5, 5], [(0, 0, -1, 3), (1, 1, -1, 9)], [9, 2])
        self.assertEqual(told, (5, [], [0, 1]))
        self.assertEqual([type(part) for part in told], [int, list, list])
        self.assertIs(type(told), tuple)

    def test_one_reach_decides(self):
        self.assertEqual(cut_of([-1], [5], [(0, 0, -1, 3), (1, 0, -1, 9)], [9, 9]), (5, [0], []))

    def test_some_reaches_and_some_licences(self):
        roll = [(2, 0, -1, 9), (1, 7, -1, 2), (0, 6, -1, 9), (0, 1, -1, 3), (5, 5, -1, 1)]
        springs = [4, 3, 0, 0, 1, 2, 5, 6]
        # Reaches 0, 1, 3 and 6 are dry behind the dealing.
        self.assertEqual(deal(FORKED, springs, roll, [9] * 5), [4, 2, 5, 3, 1])
        self.assertEqual(cut_of(FORKED, springs, roll, [9] * 5), (15, [3, 6], [1, 4]))

    def test_a_licence_that_gives_back(self):
        check_refused(self, NoCut, cut_of, [1, -1], [5, 5], [(0, 0, 1, 3)], [9])
        check_refused(self, NoCut, cut_of, [1, -1], [5, 5], [(0, 0, 1, 0)], [0])
        check_refused(self, NoCut, cut_of, [1, -1], [5, 5], [(0, 0, -1, 3), (0, 1, -1, 3), (9, 0, 1, 0)], [9, 9, 9])
        check_refused(self, NoCut, cut_of, [-1, 0], [5, 5], [(0, 1, 0, 3)], [9])

    def test_the_total_is_the_sum_of_the_takes(self):
        dice = seeded(24)
        for case in range(300):
            below, springs, roll, calls = some_day(dice, dice.choice((4, 50, MOST)), 20, 25, 3, False)
            takes, wants = deal(below, springs, roll, calls), slow_wants(roll, calls)
            total, reaches, numbers = cut_of(below, springs, roll, calls)
            with self.subTest(case=case):
                self.assertEqual(total, sum(takes))
                self.assertEqual(reaches, lowest_of(below, dry_of(below, springs, roll, takes)))
                apart = [number for number, one in enumerate(roll) if not set(slow_stretch(below, one)) & set(reaches)]
                self.assertEqual(numbers, apart)
                self.assertEqual([takes[number] for number in numbers], [wants[number] for number in numbers])

    def test_no_other_takes_that_fit_come_to_more(self):
        dice = seeded(25)
        for case in range(80):
            below, springs, roll, calls = some_day(dice, 3, 4, 4, 2, False)
            every = itertools.product(*[range(want + 1) for want in slow_wants(roll, calls)])
            fitting = [sum(takes) for takes in every if min(slow_free(below, springs, roll, takes)) >= 0]
            self.assertEqual(cut_of(below, springs, roll, calls)[0], max(fitting))

    def test_sixty_licences_on_forty_reaches(self):
        for name, below in RIVERS.items():
            roll = [(number % 5, number * 7 % len(below), -1, MOST - number) for number in range(60)]
            springs = [MOST // (reach + 1) for reach in range(len(below))]
            with self.subTest(name):
                takes = deal(below, springs, roll, [MOST] * 60)
                self.assertEqual(cut_of(below, springs, roll, [MOST] * 60)[0], sum(takes))


class ListsOfOnesOwn(unittest.TestCase):
    def test_what_is_handed_in_and_what_is_told(self):
        dice = seeded(26)
        for case in range(60):
            below, springs, roll, calls = some_day(dice, dice.choice((3, MOST)), 10, 10, 2, False)
            takes = deal(below, springs, roll, calls)
            with self.subTest(case=case):
                check_own(self, dry_of, list(below), list(springs), list(roll), list(takes))
                check_own(self, lowest_of, list(below), [dice.randrange(len(below)) for place in range(case)])
                check_apart(self, cut_of, list(below), list(springs), list(roll), list(calls))


if __name__ == "__main__":
    unittest.main()
