import itertools
import unittest

from samples import GREATEST_TAKE, MOST, chain, check_apart, seeded, slow_turns, some_amounts, some_river, steps_down
from sluice.turns import deal_turns, whole_turns


class DealTurns(unittest.TestCase):
    def check(self, free, ways, rests, takes, left):
        told = deal_turns(free, ways, rests)
        self.assertIs(type(told), tuple)
        self.assertEqual(told, (takes, left))
        self.assertEqual([type(part) for part in told], [list, list])

    def test_no_takers(self):
        self.check([0], [], [], [], [0])
        self.check([3, GREATEST_TAKE, 0], [], [], [], [3, GREATEST_TAKE, 0])

    def test_one_taker(self):
        self.check([5], [[0]], [3], [3], [2])
        self.check([5], [[0]], [5], [5], [0])
        self.check([5], [[0]], [6], [5], [0])
        self.check([5, 2, 9], [[0, 1]], [6], [2], [3, 0, 9])

    def test_a_rest_of_nought(self):
        self.check([5], [[0]], [0], [0], [5])
        self.check([5], [[0], [0], [0]], [0, 9, 0], [0, 5, 0], [0])

    def test_free_water_of_nought(self):
        self.check([0], [[0], [0]], [4, 4], [0, 0], [0])
        self.check([9, 0], [[0, 1], [0]], [4, 4], [0, 4], [5, 0])

    def test_all_of_nought(self):
        self.check([0], [[0]], [0], [0], [0])

    def test_the_odd_drop_goes_to_the_first(self):
        self.check([5], [[0], [0]], [9, 9], [3, 2], [0])
        self.check([5], [[0], [0], [0]], [9, 9, 9], [2, 2, 1], [0])
        self.check([1], [[0]] * 60, [1] * 60, [1] + [0] * 59, [0])

    def test_the_odd_drop_behind_one_that_has_its_rest(self):
        self.check([8], [[0], [0], [0]], [1, 9, 9], [1, 4, 3], [0])
        self.check([7], [[0], [0], [0]], [9, 1, 9], [3, 1, 3], [0])
        self.check([8], [[0], [0], [0]], [9, 1, 9], [4, 1, 3], [0])

    def test_one_is_done_while_others_go_on(self):
        # The first has no drop left in reach 1 behind two turns; the second has all the rest of reach 0.
        self.check([9, 2], [[0, 1], [0]], [9, 9], [2, 7], [0, 0])
        self.check([9, 2], [[0], [1, 0]], [9, 9], [7, 2], [0, 0])
        self.check([9, 2], [[0], [1, 0]], [4, 9], [4, 2], [3, 0])

    def test_who_is_done_gets_no_turn_any_more(self):
        self.check([1, 3], [[1], [0, 1], [0, 1], [1]], [9, 9, 9, 9], [1, 1, 0, 1], [0, 0])
        self.check([2, 9], [[0, 1], [0, 1], [0], [1]], [1, 9, 9, 3], [1, 1, 0, 3], [0, 4])

    def test_ways_that_share_no_reach(self):
        self.check([4, 6, 8], [[0], [1], [2]], [9, 5, 9], [4, 5, 8], [0, 1, 0])

    def test_ways_told_upwards_and_downwards(self):
        ways = [[0, 1, 2, 3], [1, 2, 3], [3, 0], [2]]
        told = deal_turns([7, 9, 11, 10], ways, [5, 6, 7, 8])
        self.assertEqual(told, slow_turns([7, 9, 11, 10], ways, [5, 6, 7, 8]))
        for turned in itertools.product((False, True), repeat=4):
            other = [way[::-1] if back else way for way, back in zip(ways, turned)]
            self.assertEqual(deal_turns([7, 9, 11, 10], other, [5, 6, 7, 8]), told)

    def test_reaches_that_no_way_has_stay(self):
        self.check([3, 3, 0, MOST], [[1]], [2], [2], [3, 1, 0, MOST])

    def test_sixty_takers(self):
        self.check([600], [[0]] * 60, list(range(60)), *slow_turns([600], [[0]] * 60, list(range(60))))
        self.check([1770], [[0]] * 60, list(range(60)), list(range(60)), [0])
        self.check([60 * 7 + 11], [[0]] * 60, [MOST] * 60, [8] * 11 + [7] * 49, [0])

    def test_all_small_cases(self):
        ways = [[0], [1], [0, 1], [1, 0]]
        cases = itertools.product(range(5), range(4), ways, ways, ways, range(4), range(4), range(3))
        for first, second, one, two, three, rest, other, last in itertools.islice(cases, 0, None, 7):
            handed = ([first, second], [one, two, three], [rest, other, last])
            self.assertEqual(deal_turns(*handed), slow_turns(*handed), handed)

    def test_many_small_cases_played_drop_by_drop(self):
        dice = seeded(13)
        for case in range(600):
            reaches = dice.randint(1, 8)
            free = some_amounts(dice, reaches, dice.choice((3, 12, 40)))
            count = dice.randint(0, 12)
            ways = [dice.sample(range(reaches), dice.randint(1, reaches)) for taker in range(count)]
            rests = some_amounts(dice, count, dice.choice((2, 9, 30)))
            with self.subTest(case=case):
                self.assertEqual(deal_turns(free, ways, rests), slow_turns(free, ways, rests))

    def test_ways_of_rivers_played_drop_by_drop(self):
        dice = seeded(14)
        for case in range(100):
            below = some_river(dice, dice.randint(1, 40))
            free = some_amounts(dice, len(below), 60)
            ways = [steps_down(below, dice.randrange(len(below))) for taker in range(dice.randint(1, 60))]
            rests = some_amounts(dice, len(ways), 20)
            with self.subTest(case=case):
                self.assertEqual(deal_turns(free, ways, rests), slow_turns(free, ways, rests))


    def test_somewhat_beyond_the_bounds(self):
        self.check([-1, 5], [[0], [1]], [5, 3], [0, 3], [-1, 2])
        self.check([5], [[0], [0]], [-1, 9], [0, 5], [0])
        self.check([5], [[0]] * 70, [1] * 70, [1] * 5 + [0] * 65, [0])
        self.check([1] * 45, [[44, 0]], [10 ** 13], [1], [0] + [1] * 43 + [0])


class GreatNumbers(unittest.TestCase):
    def test_one_reach(self):
        told = deal_turns([GREATEST_TAKE], [[0], [0]], [MOST, MOST])
        self.assertEqual(told, ([MOST, MOST], [GREATEST_TAKE - 2 * MOST]))
        told = deal_turns([MOST + 1], [[0], [0], [0]], [MOST, MOST, 7])
        self.assertEqual(told, ([MOST // 2 - 3, MOST // 2 - 3, 7], [0]))
        told = deal_turns([MOST], [[0], [0], [0]], [MOST, MOST, 7])
        self.assertEqual(told, ([MOST // 2 - 3, MOST // 2 - 4, 7], [0]))

    def test_one_taker_goes_on_alone(self):
        told = deal_turns([GREATEST_TAKE, 1], [[0, 1], [0]], [MOST, MOST])
        self.assertEqual(told, ([1, MOST], [GREATEST_TAKE - MOST - 1, 0]))

    def check_fair(self, free, ways, rests):
        """Who is short has a reach without a drop, in which no drop was taken behind the one it would take next."""
        takes, left = deal_turns(free, ways, rests)
        held = [sum(take for take, way in zip(takes, ways) if reach in way) for reach in range(len(free))]
        self.assertEqual(left, [drops - hold for drops, hold in zip(free, held)])
        self.assertGreaterEqual(min(left), 0)
        for taker, rest in enumerate(rests):
            self.assertTrue(0 <= takes[taker] <= rest)
            following = (takes[taker] + 1, taker)
            closed = [reach for reach in ways[taker] if left[reach] == 0 and all(
                (takes[other], other) < following for other in range(len(ways)) if takes[other] and reach in ways[other]
            )]
            self.assertTrue(takes[taker] == rest or closed, taker)

    def test_sixty_takers_on_forty_reaches(self):
        # Each taker is done at another time, so that there are as many rounds as there can be.
        ways = [list(range(taker % 40, 40)) for taker in range(60)]
        rests = [MOST - taker * 10 ** 9 for taker in range(60)]
        self.check_fair([MOST // 7 + reach * MOST + reach for reach in range(40)], ways, rests)
        self.check_fair([GREATEST_TAKE - reach for reach in range(40)], ways, rests)
        self.check_fair([40 * MOST // (reach + 1) for reach in range(40)], ways, rests)

    def test_great_numbers_in_many_rivers(self):
        dice = seeded(15)
        for case in range(60):
            below = some_river(dice, dice.randint(1, 40))
            ways = [steps_down(below, dice.randrange(len(below))) for taker in range(dice.randint(1, 60))]
            with self.subTest(case=case):
                free = some_amounts(dice, len(below), dice.choice((MOST, GREATEST_TAKE)))
                self.check_fair(free, ways, some_amounts(dice, len(ways), MOST))

    def test_all_in_row(self):
        ways = [list(range(40))] * 60
        free = [GREATEST_TAKE - reach for reach in range(40)]
        self.assertEqual(deal_turns(free, ways, [MOST] * 60)[0], [MOST] * 60)
        free = [30 * MOST + 17] + [GREATEST_TAKE] * 39
        self.assertEqual(deal_turns(free, ways, [MOST] * 60)[0], [MOST // 2 + 1] * 17 + [MOST // 2] * 43)

    def test_a_row_of_reaches_each_with_its_taker(self):
        ways = [steps_down(chain(40), reach) for reach in range(40)]
        free = [reach + 1 for reach in range(39)] + [GREATEST_TAKE]
        takes, left = deal_turns(free, ways, [MOST] * 40)
        self.assertEqual(takes, [1] * 39 + [MOST])
        self.assertEqual(left, [0] * 39 + [GREATEST_TAKE - 39 - MOST])


class WholeTurns(unittest.TestCase):
    def test_the_least_rest_decides(self):
        self.assertEqual(whole_turns([100], [[0]], [7]), 7)
        self.assertEqual(whole_turns([100], [[0], [0], [0]], [9, 4, 30]), 4)
        self.assertEqual(whole_turns([100, 100], [[0], [1]], [8, 3]), 3)

    def test_the_scarcest_reach_decides(self):
        self.assertEqual(whole_turns([7], [[0]], [100]), 7)
        self.assertEqual(whole_turns([9, 5, 7], [[0, 1, 2]], [100]), 5)
        self.assertEqual(whole_turns([9, 5, 7], [[0], [1], [2]], [100, 100, 100]), 5)

    def test_several_ways_on_one_reach(self):
        self.assertEqual(whole_turns([7], [[0], [0]], [100, 100]), 3)
        self.assertEqual(whole_turns([8], [[0], [0]], [100, 100]), 4)
        self.assertEqual(whole_turns([59], [[0]] * 60, [100] * 60), 0)
        self.assertEqual(whole_turns([60], [[0]] * 60, [100] * 60), 1)
        self.assertEqual(whole_turns([5, 9], [[0, 1], [1], [1]], [100] * 3), 3)
        self.assertEqual(whole_turns([2, 9], [[0, 1], [1], [1]], [100] * 3), 2)

    def test_rest_and_reach_alike(self):
        self.assertEqual(whole_turns([8], [[0], [0]], [4, 4]), 4)
        self.assertEqual(whole_turns([8], [[0], [0]], [3, 4]), 3)
        self.assertEqual(whole_turns([8], [[0], [0]], [5, 5]), 4)

    def test_nought(self):
        self.assertEqual(whole_turns([8], [[0], [0]], [0, 4]), 0)
        self.assertEqual(whole_turns([0], [[0]], [4]), 0)
        self.assertEqual(whole_turns([0], [[0]], [0]), 0)
        self.assertEqual(whole_turns([9, 0], [[0], [1]], [4, 4]), 0)

    def test_never_below_nought(self):
        self.assertEqual(whole_turns([-1], [[0]], [4]), 0)
        self.assertEqual(whole_turns([4], [[0]], [-1]), 0)
        self.assertEqual(whole_turns([4], [], []), 0)

    def test_a_reach_on_no_way_does_not_count(self):
        self.assertEqual(whole_turns([0, 9], [[1]], [4]), 4)

    def test_great_numbers(self):
        self.assertEqual(whole_turns([GREATEST_TAKE], [[0]], [MOST]), MOST)
        self.assertEqual(whole_turns([MOST], [[0]] * 3, [MOST] * 3), MOST // 3)
        self.assertEqual(whole_turns([GREATEST_TAKE] * 40, [list(range(40))] * 60, [MOST] * 60), MOST)

    def test_so_many_turns_of_the_play_are_whole(self):
        dice = seeded(16)
        for case in range(300):
            reaches = dice.randint(1, 5)
            free = some_amounts(dice, reaches, 30)
            ways = [dice.sample(range(reaches), dice.randint(1, reaches)) for taker in range(dice.randint(1, 6))]
            rests = some_amounts(dice, len(ways), 9)
            turns = whole_turns(free, ways, rests)
            least = min(slow_turns(free, ways, [turns] * len(ways))[0])
            more = [min(rest, turns + 1) for rest in rests]
            with self.subTest(case=case):
                self.assertLessEqual(turns, min(rests))
                self.assertEqual(least, turns)
                self.assertEqual(min(slow_turns(free, ways, more)[0]), turns)


class ListsOfOnesOwn(unittest.TestCase):
    def test_what_is_handed_in_and_what_is_told(self):
        for handed in (
            ([5, 9, 7], [[0, 1], [2, 1], [1]], [3, 4, 9]),
            ([5, 9, 7], [], []),
            ([0], [[0]], [0]),
            ([GREATEST_TAKE], [[0]] * 2, [MOST] * 2),
        ):
            with self.subTest(handed=handed):
                check_apart(self, deal_turns, *handed)
        check_apart(self, whole_turns, [5, 9, 7], [[0, 1], [2, 1], [1]], [3, 4, 9])


if __name__ == "__main__":
    unittest.main()
