import unittest

from samples import FORKED, MANY_FIGURES, RIVERS, chain, check_own, slow_natural, steps_down
from sluice import errors
from sluice.errors import NoReach, SluiceError
from sluice.flows import flows_of, natural_of

MOST_SPRING = 10 ** 12
MOST_AMOUNT = 10 ** 14


def springs_for(below):
    """Springs from 0 to 10 ** 12, small and great ones, that differ from reach to reach."""
    return [(0, reach, MOST_SPRING - reach, reach ** 6)[reach % 4] for reach in range(len(below))]


def moves_for(below):
    """200 moves with every sort of stop and amounts of both signs, greatest ones among them."""
    moves = []
    for turn in range(200):
        start = turn * 7 % len(below)
        way = steps_down(below, start)
        stops = [-1, start, way[-1], way[len(way) // 2]]
        amount = (turn ** 5 * 31 - 10 ** 9, MOST_AMOUNT, -MOST_AMOUNT, turn, -turn)[turn % 5]
        moves.append((start, stops[turn // 5 % 4], amount))
    return moves


def slow_flows(below, springs, moves):
    flows = slow_natural(below, springs)
    for start, stop, amount in moves:
        way = steps_down(below, start)
        for reach in way if stop == -1 else way[:way.index(stop)]:
            flows[reach] -= amount
    return flows


class Natural(unittest.TestCase):
    def test_springs_of_nought(self):
        for below in RIVERS.values():
            self.assertEqual(natural_of(below, [0] * len(below)), [0] * len(below))

    def test_small_springs(self):
        self.assertEqual(natural_of([-1], [3]), [3])
        self.assertEqual(natural_of([-1, 0], [1, 2]), [3, 2])
        self.assertEqual(natural_of([-1, -1], [1, 2]), [1, 2])
        self.assertEqual(natural_of(FORKED, [1, 2, 4, 8, 16, 32, 64, 128]), [1, 2, 132, 11, 80, 175, 64, 128])

    def test_the_greatest_springs(self):
        self.assertEqual(natural_of(chain(40), [MOST_SPRING] * 40), [n * MOST_SPRING for n in range(1, 41)])
        star = [MOST_SPRING] * 40
        star[17] = 40 * MOST_SPRING
        self.assertEqual(natural_of(RIVERS["forty, a star"], [MOST_SPRING] * 40), star)
        self.assertEqual(natural_of([-1] * 40, [MOST_SPRING] * 40), [MOST_SPRING] * 40)

    def test_each_drop_counts_beside_the_greatest(self):
        self.assertEqual(natural_of(chain(3), [MOST_SPRING, 1, MOST_SPRING - 1]), [10 ** 12, 10 ** 12 + 1, 2 * 10 ** 12])

    def test_every_river(self):
        for name, below in RIVERS.items():
            with self.subTest(name):
                springs = springs_for(below)
                self.assertEqual(natural_of(below, springs), slow_natural(below, springs))

    def test_one_spring_is_felt_on_its_way_alone(self):
        for name, below in RIVERS.items():
            for top in range(len(below)):
                with self.subTest(name, top=top):
                    springs = [5 if reach == top else 0 for reach in range(len(below))]
                    way = steps_down(below, top)
                    felt = [5 if reach in way else 0 for reach in range(len(below))]
                    self.assertEqual(natural_of(below, springs), felt)


class Flows(unittest.TestCase):
    springs = [1, 2, 4, 8, 16, 32, 64, 128]
    natural = [1, 2, 132, 11, 80, 175, 64, 128]

    def test_no_moves(self):
        self.assertEqual(flows_of(FORKED, self.springs, []), self.natural)

    def test_the_stop_minus_one(self):
        self.assertEqual(flows_of(FORKED, self.springs, [(7, -1, 100)]), [1, 2, 32, 11, 80, 75, 64, 28])

    def test_the_stop_at_the_start(self):
        for amount in (5, -5, MOST_AMOUNT, -MOST_AMOUNT):
            for reach in range(8):
                self.assertEqual(flows_of(FORKED, self.springs, [(reach, reach, amount)]), self.natural)

    def test_a_stop_on_the_way(self):
        self.assertEqual(flows_of(FORKED, self.springs, [(7, 2, 100)]), [1, 2, 132, 11, 80, 175, 64, 28])
        self.assertEqual(flows_of(FORKED, self.springs, [(7, 5, 100)]), [1, 2, 32, 11, 80, 175, 64, 28])

    def test_water_let_in(self):
        self.assertEqual(flows_of(FORKED, self.springs, [(7, 5, -100)]), [1, 2, 232, 11, 80, 175, 64, 228])
        self.assertEqual(flows_of(FORKED, self.springs, [(6, -1, -1)]), [1, 2, 132, 11, 81, 175, 65, 128])

    def test_the_same_move_twice(self):
        once = (0, 5, 3)
        self.assertEqual(flows_of(FORKED, self.springs, [once]), [-2, 2, 132, 8, 80, 175, 64, 128])
        self.assertEqual(flows_of(FORKED, self.springs, [once, once]), [-5, 2, 132, 5, 80, 175, 64, 128])

    def test_a_move_and_its_contrary(self):
        self.assertEqual(flows_of(FORKED, self.springs, [(0, 5, 30), (0, 5, -30)]), self.natural)

    def test_flows_below_nought(self):
        self.assertEqual(flows_of([-1], [0], [(0, -1, 1)]), [-1])
        self.assertEqual(flows_of([1, -1], [2, 3], [(0, -1, MOST_AMOUNT)] * 2), [2 - 2 * 10 ** 14, 5 - 2 * 10 ** 14])

    def test_the_greatest_amounts(self):
        down = [(0, -1, MOST_AMOUNT)] * 200
        natural = [n * MOST_SPRING for n in range(1, 41)]
        told = flows_of(chain(40), [MOST_SPRING] * 40, down)
        self.assertEqual(told, [flow - 200 * MOST_AMOUNT for flow in natural])
        told = flows_of(chain(40), [MOST_SPRING] * 40, [(0, 39, -MOST_AMOUNT)] * 200)
        self.assertEqual(told, [flow + 200 * MOST_AMOUNT for flow in natural[:39]] + natural[39:])

    def test_two_hundred_moves_in_every_river(self):
        for name, below in RIVERS.items():
            with self.subTest(name):
                springs, moves = springs_for(below), moves_for(below)
                self.assertEqual(len(moves), 200)
                self.assertEqual(flows_of(below, springs, moves), slow_flows(below, springs, moves))

    def test_somewhat_more_than_the_bounds_is_not_refused(self):
        self.assertEqual(flows_of([-1], [10 ** 13], [(0, -1, 10 ** 15)] * 210), [10 ** 13 - 210 * 10 ** 15])


class Refused(unittest.TestCase):
    springs = [9] * 8
    good = [(0, 5, 1), (7, -1, -2), (6, 6, 3), (3, 5, 4)]

    def check_refused(self, moves):
        with self.assertRaises(NoReach) as caught:
            flows_of(FORKED, self.springs, moves)
        self.assertIs(type(caught.exception), NoReach)

    def test_one_bad_stop_among_good_moves(self):
        self.assertEqual(flows_of(FORKED, self.springs, self.good), slow_flows(FORKED, self.springs, self.good))
        for stop in (-2, -8, -MANY_FIGURES, 1, 4, 6, 8, 40, MANY_FIGURES):
            for place in range(len(self.good) + 1):
                self.check_refused(self.good[:place] + [(0, stop, 1)] + self.good[place:])

    def test_a_reach_above_the_start(self):
        self.check_refused([(5, 0, 1)])
        self.check_refused([(5, 3, -1)])

    def test_a_bad_stop_is_refused_whatever_the_amount(self):
        for amount in (0, 1, -1, MOST_AMOUNT, -MOST_AMOUNT):
            self.check_refused([(0, 1, amount)])

    def test_the_last_of_two_hundred(self):
        self.check_refused([(0, 5, 1)] * 199 + [(0, 2, 1)])

    def test_the_refusal_is_of_its_own_class(self):
        for taken in (NoReach, SluiceError, ValueError):
            with self.assertRaises(taken):
                flows_of(FORKED, self.springs, [(0, 2, 1)])
        try:
            flows_of(FORKED, self.springs, [(0, 2, 1)])
        except SluiceError as refusal:
            classes = [value for value in vars(errors).values() if isinstance(value, type)]
            under = [one for one in classes if isinstance(refusal, one)]
            self.assertCountEqual(under, [SluiceError, NoReach])

    def test_a_refusal_changes_nothing(self):
        below, springs, moves = list(FORKED), list(self.springs), self.good + [(0, 1, 1)]
        with self.assertRaises(NoReach):
            flows_of(below, springs, moves)
        self.assertEqual((below, springs, moves), (FORKED, self.springs, self.good + [(0, 1, 1)]))
        self.assertEqual(flows_of(below, springs, []), slow_natural(FORKED, self.springs))


class ListsOfOnesOwn(unittest.TestCase):
    def test_all_that_tell_lists(self):
        for name, below in RIVERS.items():
            with self.subTest(name):
                springs, moves = springs_for(below), moves_for(below)
                check_own(self, natural_of, list(below), list(springs))
                check_own(self, flows_of, list(below), list(springs), [])
                check_own(self, flows_of, list(below), list(springs), list(moves))


if __name__ == "__main__":
    unittest.main()
