import unittest

from samples import FORKED, MOST, chain, check_apart, check_dealt, check_refused, seeded, slow_day, slow_wants
from samples import some_amounts, some_day, some_lets, some_ponds
from sluice.days import day_of
from sluice.errors import NoPond, NoReach, TooMuch


def whole_day(dice, most, reaches=12, licences=14, days=3):
    below, springs, roll, calls = some_day(dice, most, reaches, licences, days)
    ponds, kept = some_ponds(dice, roll, most)
    return below, springs, roll, ponds, kept, calls, some_lets(dice, below, roll, ponds, kept, dice.randint(0, 12))


class Days(unittest.TestCase):
    def check(self, handed, takes, kept, flows, sheet):
        told = day_of(*handed)
        self.assertEqual(told, (takes, kept, flows, sheet))
        self.assertEqual([type(part) for part in told], [list, list, list, tuple])
        self.assertIs(type(told), tuple)

    def test_nothing_but_the_river(self):
        self.check((chain(3), [5, 0, 2], [], [], [], [], []), [], [], [5, 5, 7], (7, 0, 0, 0, 0, 7))
        self.check(([-1, -1], [5, 2], [], [], [], [], []), [], [], [5, 2], (7, 0, 0, 0, 0, 7))

    def test_licences_without_ponds(self):
        roll = [(0, 0, -1, 3), (0, 0, 2, 9)]
        self.check((chain(3), [5, 0, 2], roll, [], [], [9, 9], []), [3, 2], [], [0, 0, 4], (7, 0, 3, 0, 0, 4))

    def test_a_pond_keeps_what_it_takes(self):
        handed = (chain(2), [5, 1], [(0, 0, -1, 4)], [(0, 100, 0)], [10], [9], [])
        self.check(handed, [4], [14], [1, 2], (6, 10, 0, 14, 0, 2))

    def test_a_pond_loses_in_the_evening(self):
        handed = (chain(2), [5, 1], [(0, 0, -1, 4)], [(0, 100, 500)], [11], [9], [])
        self.check(handed, [4], [8], [1, 2], (6, 11, 0, 8, 7, 2))

    def test_a_let_to_the_mouth(self):
        handed = (chain(3), [5, 1, 0], [(0, 1, -1, 4)], [(0, 100, 0)], [10], [0], [(0, -1, 7)])
        self.check(handed, [0], [3], [5, 13, 13], (6, 10, 0, 3, 0, 13))

    def test_a_let_to_a_reach_on_the_way(self):
        handed = (chain(3), [5, 1, 0], [(0, 0, -1, 4)], [(0, 100, 0)], [10], [0], [(0, 2, 7)])
        self.check(handed, [0], [3], [12, 13, 6], (6, 10, 7, 3, 0, 6))

    def test_a_let_to_the_start_itself(self):
        handed = (chain(3), [5, 1, 0], [(0, 0, -1, 4)], [(0, 100, 0)], [10], [0], [(0, 0, 7)])
        self.check(handed, [0], [3], [5, 6, 6], (6, 10, 7, 3, 0, 6))

    def test_water_let_in_is_none_of_what_is_dealt(self):
        roll = [(0, 0, -1, 4), (1, 1, -1, 9)]
        handed = (chain(2), [2, 0], roll, [(0, 100, 0)], [10], [0, 9], [(0, -1, 10)])
        self.check(handed, [0, 2], [0], [12, 10], (2, 10, 2, 0, 0, 10))

    def test_the_call_of_a_pond_is_lessened_to_the_room_behind_the_lets(self):
        handed = ([-1], [50], [(0, 0, -1, 40)], [(0, 20, 0)], [18], [40])
        self.check((*handed, []), [2], [20], [48], (50, 18, 0, 20, 0, 48))
        self.check((*handed, [(0, -1, 8)]), [10], [20], [48], (50, 18, 0, 20, 0, 48))
        self.check((*handed, [(0, 0, 18)]), [20], [20], [30], (50, 18, 18, 20, 0, 30))

    def test_a_full_pond_leaves_the_water_to_the_younger(self):
        roll = [(0, 0, -1, 9), (1, 0, -1, 9)]
        handed = ([-1], [5], roll, [(0, 20, 0)], [20], [9, 9], [])
        self.check(handed, [0, 5], [20], [0], (5, 20, 5, 20, 0, 0))

    def test_all_at_once(self):
        roll = [(0, 0, -1, 6), (1, 7, -1, 9), (1, 3, 5, 8), (2, 6, -1, 5), (0, 6, 4, 9)]
        ponds = [(1, 40, 100), (3, 9, 0)]
        springs = [4, 3, 1, 2, 1, 0, 7, 6]
        lets = [(0, 2, 5), (0, -1, 3), (1, 6, 2), (1, 4, 1)]
        handed = (FORKED, springs, roll, ponds, [20, 9], [9, 9, 9, 9, 3], lets)
        # The pond of 3 lets three and calls for three.
        self.check(handed, [4, 6, 5, 3, 3], [17, 9], [0, 3, 4, 0, 5, 9, 2, 8], (24, 29, 12, 26, 1, 14))

    def test_small_days_told_once_more(self):
        dice = seeded(31)
        for case in range(300):
            handed = whole_day(dice, dice.choice((3, 10, 25)))
            with self.subTest(case=case):
                self.assertEqual(day_of(*handed), slow_day(*handed))

    def test_each_drop_is_accounted_for(self):
        dice = seeded(32)
        for case in range(200):
            handed = whole_day(dice, dice.choice((5, 1000, MOST)), 40, 60, dice.choice((1, 5, 60)))
            below, springs, roll, ponds, kept, calls, lets = handed
            takes, after, flows, sheet = day_of(*handed)
            rose, before, used, behind, lost, out = sheet
            with self.subTest(case=case):
                self.assertEqual(rose + before, used + behind + lost + out)
                self.assertGreaterEqual(min(flows + list(sheet) + takes), 0)
                self.assertTrue(all(keeps <= room for keeps, (number, room, leak) in zip(after, ponds)))
                self.assertTrue(all(take <= want for take, want in zip(takes, slow_wants(roll, calls))))

    def test_great_days_are_dealt_by_the_lessened_calls(self):
        dice = seeded(33)
        for case in range(60):
            below, springs, roll, ponds, kept, calls, lets = whole_day(dice, MOST, 20, 30)
            left, lessened = list(kept), list(calls)
            for place, reach, amount in lets:
                left[place] -= amount
            for (number, room, leak), keeps in zip(ponds, left):
                lessened[number] = min(calls[number], room - keeps)
            with self.subTest(case=case):
                takes = day_of(below, springs, roll, ponds, kept, calls, lets)[0]
                check_dealt(self, below, springs, roll, lessened, takes)

    def test_several_days_on_end(self):
        dice = seeded(34)
        for case in range(20):
            below, springs, roll, calls = some_day(dice, MOST, 20, 20)
            ponds, kept = some_ponds(dice, roll, MOST)
            rose, used, lost, out, first = 0, 0, 0, 0, sum(kept)
            for day in range(8):
                lets = some_lets(dice, below, roll, ponds, kept, 6)
                springs, calls = some_amounts(dice, len(below), MOST), some_amounts(dice, len(roll), MOST)
                takes, kept, flows, sheet = day_of(below, springs, roll, ponds, kept, calls, lets)
                rose, used, lost, out = rose + sheet[0], used + sheet[2], lost + sheet[4], out + sheet[5]
                self.assertEqual(sheet[3], sum(kept))
            self.assertEqual(rose + first, used + sum(kept) + lost + out)

    def test_sixty_licences_ten_ponds_and_sixty_lets(self):
        roll = [(number % 3, number * 7 % 40, -1, MOST) for number in range(60)]
        ponds = [(number * 6, MOST, 100 * number) for number in range(10)]
        lets = [(turn % 10, (-1, 39)[turn % 2], MOST // 60 - turn) for turn in range(60)]
        sheet = day_of(chain(40), [MOST] * 40, roll, ponds, [MOST] * 10, [MOST] * 60, lets)[3]
        self.assertEqual(sheet[0] + sheet[1], sum(sheet[2:]))
        self.assertEqual(sheet[:2], (40 * MOST, 10 * MOST))


class Refused(unittest.TestCase):
    roll = [(0, 0, -1, 6), (1, 7, -1, 9)]

    def check_no(self, refusal, *lets):
        handed = (list(FORKED), [5] * 8, list(self.roll), [(1, 40, 100)], [20], [9, 9], list(lets))
        check_refused(self, refusal, day_of, *handed)

    def test_each_refusal(self):
        for pond in (-1, 1, 2, 10 ** 14, -10 ** 14):
            self.check_no(NoPond, (pond, -1, 0))
        for reach in (0, 3, 4, 8, -2, 10 ** 14, -10 ** 14):
            self.check_no(NoReach, (0, reach, 0))
        for amount in (-1, 21, 10 ** 14, -10 ** 14):
            self.check_no(TooMuch, (0, -1, amount))

    def test_the_first_bad_let_tells_it(self):
        good = [(0, -1, 10), (0, 5, 10)]
        self.check_no(NoPond, *good, (1, -1, 0), (0, 0, 0), (0, -1, 1))
        self.check_no(NoReach, *good, (0, 0, 0), (1, -1, 0), (0, -1, 1))
        self.check_no(TooMuch, *good, (0, -1, 1), (1, -1, 0), (0, 0, 0))
        self.check_no(NoPond, (1, 0, 99))
        self.check_no(NoReach, (0, 0, 99))

    def test_without_ponds_each_let_is_refused(self):
        check_refused(self, NoPond, day_of, list(FORKED), [5] * 8, list(self.roll), [], [], [9, 9], [(0, -1, 0)])


class ListsOfOnesOwn(unittest.TestCase):
    def test_what_is_handed_in_and_what_is_told(self):
        dice = seeded(35)
        for case in range(60):
            with self.subTest(case=case):
                check_apart(self, day_of, *whole_day(dice, MOST))
        check_apart(self, day_of, [-1], [0], [], [], [], [], [])


if __name__ == "__main__":
    unittest.main()
