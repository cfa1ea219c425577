import unittest

from samples import FORKED, MOST, RIVERS, chain, check_dealt, check_own, seeded, slow_deal, some_amounts, some_day
from samples import some_roll
from sluice.dealing import deal


class Dealing(unittest.TestCase):
    def test_no_licences(self):
        for below in RIVERS.values():
            self.assertEqual(deal(below, [7] * len(below), [], []), [])

    def test_one_licence(self):
        self.assertEqual(deal([-1], [5], [(0, 0, -1, 9)], [9]), [5])
        self.assertEqual(deal([-1], [5], [(0, 0, -1, 3)], [9]), [3])
        self.assertEqual(deal([-1], [5], [(0, 0, -1, 9)], [2]), [2])
        self.assertEqual(deal([-1], [0], [(0, 0, -1, 9)], [9]), [0])

    def test_the_elder_goes_first(self):
        self.assertEqual(deal([-1], [5], [(1, 0, -1, 9), (0, 0, -1, 4)], [9, 9]), [1, 4])
        self.assertEqual(deal([-1], [5], [(0, 0, -1, 9), (1, 0, -1, 4)], [9, 9]), [5, 0])

    def test_one_day_shares_in_turn(self):
        self.assertEqual(deal([-1], [5], [(1, 0, -1, 9), (1, 0, -1, 9)], [9, 9]), [3, 2])
        self.assertEqual(deal([-1], [6], [(1, 0, -1, 1), (1, 0, -1, 9), (1, 0, -1, 9)], [9, 9, 9]), [1, 3, 2])

    def test_an_elder_one_below_holds_the_water_above(self):
        roll = [(5, 0, -1, 9), (1, 1, -1, 4)]
        self.assertEqual(deal([1, -1], [5, 0], roll, [9, 9]), [1, 4])
        self.assertEqual(deal([1, -1], [5, 4], roll, [9, 9]), [5, 4])

    def test_what_is_given_back_is_there_below(self):
        roll = [(0, 0, 1, 9), (1, 1, -1, 9)]
        self.assertEqual(deal([1, -1], [5, 0], roll, [9, 9]), [5, 5])
        roll = [(0, 0, -1, 9), (1, 1, -1, 9)]
        self.assertEqual(deal([1, -1], [5, 0], roll, [9, 9]), [5, 0])

    def test_who_gives_back_still_needs_the_water(self):
        roll = [(0, 2, -1, 4), (1, 0, 2, 9), (2, 0, -1, 9)]
        self.assertEqual(deal(chain(3), [5, 0, 0], roll, [9, 9, 9]), [4, 5, 0])

    def test_days_group_by_group(self):
        roll = [(3, 0, -1, 9), (0, 3, 5, 4), (3, 1, -1, 9), (0, 5, -1, 6), (1, 7, -1, 2)]
        springs = [3, 4, 1, 2, 0, 1, 0, 5]
        told = deal(FORKED, springs, roll, [9, 9, 9, 9, 9])
        self.assertEqual(told, slow_deal(FORKED, springs, roll, [9, 9, 9, 9, 9]))
        self.assertEqual(told, [3, 4, 2, 6, 2])

    def test_small_cases_drop_by_drop(self):
        dice = seeded(3)
        for case in range(500):
            below, springs, roll, calls = some_day(dice, dice.choice((2, 6, 20)), days=dice.choice((1, 2, 5)))
            with self.subTest(case=case):
                takes = deal(below, springs, roll, calls)
                self.assertEqual(takes, slow_deal(below, springs, roll, calls))

    def test_sixty_licences_on_forty_reaches_drop_by_drop(self):
        dice = seeded(4)
        for name, below in RIVERS.items():
            for days in (1, 4, 60):
                with self.subTest(name, days=days):
                    roll = some_roll(dice, below, 60, days, 12)
                    springs, calls = some_amounts(dice, len(below), 30), some_amounts(dice, 60, 12)
                    self.assertEqual(deal(below, springs, roll, calls), slow_deal(below, springs, roll, calls))


class ThePromise(unittest.TestCase):
    def test_of_many_rivers_the_one_list_is_dealt(self):
        dice = seeded(5)
        for case in range(300):
            handed = some_day(dice, dice.choice((5, 1000, MOST)), 20, 20, dice.choice((1, 2, 9)), dice.randrange(2) == 0)
            with self.subTest(case=case):
                check_dealt(self, *handed, deal(*handed))

    def test_sixty_of_one_day_with_the_greatest_numbers(self):
        dice = seeded(6)
        for name, below in RIVERS.items():
            with self.subTest(name):
                roll = [(8, number * 7 % len(below), -1, MOST - number ** 5) for number in range(60)]
                calls = [MOST - number ** 3 for number in range(60)]
                springs = [MOST - reach for reach in range(len(below))]
                check_dealt(self, below, springs, roll, calls, deal(below, springs, roll, calls))
                roll, calls = some_roll(dice, below, 60, 1, MOST), some_amounts(dice, 60, MOST)
                check_dealt(self, below, springs, roll, calls, deal(below, springs, roll, calls))

    def test_all_at_one_reach(self):
        roll = [(0, 0, -1, MOST)] * 60
        self.assertEqual(deal([-1], [MOST], roll, [MOST] * 60), [MOST // 60 + 1] * 40 + [MOST // 60] * 20)
        self.assertEqual(deal([-1], [MOST], roll, [0] * 59 + [MOST]), [0] * 59 + [MOST])

    def test_younger_ones_change_nothing_for_elder_ones(self):
        dice = seeded(7)
        for case in range(200):
            below, springs, roll, calls = some_day(dice, dice.choice((5, MOST)), 15, 25, 5)
            takes = deal(below, springs, roll, calls)
            for day in range(6):
                elder = [number for number, one in enumerate(roll) if one[0] < day]
                with self.subTest(case=case, day=day):
                    told = deal(below, springs, [roll[number] for number in elder], [calls[number] for number in elder])
                    self.assertEqual(told, [takes[number] for number in elder])

    def test_who_calls_for_less_leaves_no_other_with_less(self):
        dice = seeded(8)
        for case in range(200):
            below, springs, roll, calls = some_day(dice, dice.choice((6, MOST)), 12, 15, 3, False)
            takes = deal(below, springs, roll, calls)
            for number in range(len(roll)):
                fewer = list(calls)
                fewer[number] = dice.randint(0, calls[number])
                told = deal(below, springs, roll, fewer)
                with self.subTest(case=case, number=number):
                    others = [other for other in range(len(roll)) if other != number]
                    self.assertEqual([other for other in others if told[other] < takes[other]], [])

    def test_more_that_rises_leaves_nobody_with_less(self):
        dice = seeded(9)
        for case in range(200):
            below, springs, roll, calls = some_day(dice, dice.choice((6, MOST)), 12, 15, 3, False)
            takes = deal(below, springs, roll, calls)
            for reach in range(len(below)):
                more = list(springs)
                more[reach] += dice.choice((1, 3, MOST - springs[reach]))
                told = deal(below, more, roll, calls)
                with self.subTest(case=case, reach=reach):
                    self.assertEqual([number for number in range(len(roll)) if told[number] < takes[number]], [])


class ListsOfOnesOwn(unittest.TestCase):
    def test_the_takes(self):
        dice = seeded(10)
        for case in range(40):
            with self.subTest(case=case):
                check_own(self, deal, *some_day(dice, MOST, 40, 60))
        check_own(self, deal, [-1], [5], [], [])

    def test_other_questions_between_change_nothing(self):
        dice = seeded(11)
        days = [some_day(dice, MOST, 10, 20) for case in range(20)]
        first = [deal(*handed) for handed in days]
        self.assertEqual([deal(*handed) for handed in reversed(days)], first[::-1])


if __name__ == "__main__":
    unittest.main()
