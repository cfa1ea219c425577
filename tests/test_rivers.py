import itertools
import unittest

from samples import FORKED, MANY_FIGURES, RIVERS, chain, check_own, renumbered, steps_down
from sluice import errors
from sluice.errors import NoReach, SluiceError
from sluice.rivers import above_of, is_river, mouths_of, stretch_of, tops_first, way_of


class IsRiver(unittest.TestCase):
    def check_none(self, below):
        with self.subTest(length=len(below)):
            self.assertIs(is_river(below), False)

    def test_rivers(self):
        for name, below in RIVERS.items():
            with self.subTest(name):
                self.assertIs(is_river(below), True)

    def test_forty_are_let_and_forty_one_are_not(self):
        for length in (1, 2, 39, 40):
            self.assertIs(is_river(chain(length)), True)
            self.assertIs(is_river([-1] * length), True)
        for length in (41, 42, 1000):
            self.check_none(chain(length))
            self.check_none([-1] * length)

    def test_the_empty_list(self):
        self.check_none([])

    def test_numbers_below_minus_one(self):
        for number in (-2, -3, -40, -41, -10 ** 20, -MANY_FIGURES):
            self.check_none([number])
            self.check_none([number, -1])
            self.check_none([-1, number, -1])
            self.check_none([-1, -1, number])
            self.check_none(chain(39) + [number])

    def test_the_last_place_and_above_it(self):
        self.assertIs(is_river([2, 2, -1]), True)
        self.assertIs(is_river([39] * 39 + [-1]), True)
        for number in (3, 4, 39, 40, 10 ** 20, MANY_FIGURES):
            self.check_none([number, 2, -1])
            self.check_none([1, number, -1])
            self.check_none([-1, 0, number])
        self.check_none([40] + [-1] * 39)
        self.check_none([1])

    def test_a_reach_that_flows_into_itself(self):
        self.check_none([0])
        self.check_none([0, -1])
        self.check_none([-1, 1])
        self.check_none([1, -1, 2])
        self.check_none(chain(39) + [39])

    def test_reaches_that_flow_round(self):
        self.check_none([1, 0])
        self.check_none([1, 2, 0])
        self.check_none([1, 0, -1])
        self.check_none([-1, 2, 1])
        self.check_none([-1, 0, 3, 4, 2])
        self.check_none([-1, 2, 3, 1, 0, 4])
        self.check_none(list(range(1, 40)) + [0])
        self.check_none(renumbered(list(range(1, 40)) + [0], 7))

    def test_some_reaches_come_to_a_round(self):
        self.check_none([1, 2, 1, -1])
        self.check_none([2, 2, 3, 2])
        self.check_none([-1, 0, 1, 4, 5, 4])
        self.check_none(list(range(1, 40)) + [38])
        self.check_none(list(range(1, 39)) + [37, -1])

    def test_all_short_lists(self):
        # There are (n + 1) ** (n - 1) ways to hang n reaches into trees with a mouth each.
        for length, count in ((1, 1), (2, 3), (3, 16), (4, 125), (5, 1296)):
            lists = itertools.product(range(-2, length + 1), repeat=length)
            self.assertEqual(sum(is_river(list(below)) for below in lists), count)

    def test_the_list_stays_and_the_answer_too(self):
        for below in (chain(40), chain(41), [1, 0], [0], [], [-2, -1], [2, -1], FORKED[:]):
            as_it_was = list(below)
            first = is_river(below)
            self.assertEqual(below, as_it_was)
            self.assertIs(is_river(below), first)


class Ways(unittest.TestCase):
    def test_ways_of_a_forked_river(self):
        ways = [[0, 3, 5], [1, 3, 5], [2, 5], [3, 5], [4], [5], [6, 4], [7, 2, 5]]
        self.assertEqual([way_of(FORKED, reach) for reach in range(8)], ways)

    def test_ways_of_forty_reaches(self):
        self.assertEqual(way_of(chain(40), 0), list(range(40)))
        self.assertEqual(way_of(chain(40), 38), [38, 39])
        self.assertEqual(way_of([-1] + list(range(39)), 39), list(range(39, -1, -1)))

    def test_every_way_goes_step_by_step_to_a_mouth(self):
        for name, below in RIVERS.items():
            for reach in range(len(below)):
                with self.subTest(name, reach=reach):
                    self.assertEqual(way_of(below, reach), steps_down(below, reach))

    def test_somewhat_more_reaches_than_a_river_has(self):
        self.assertEqual(way_of(chain(45), 1), list(range(1, 45)))


class Above(unittest.TestCase):
    def test_above_in_a_forked_river(self):
        above = [[0], [1], [2, 7], [0, 1, 3], [4, 6], [0, 1, 2, 3, 5, 7], [6], [7]]
        self.assertEqual([above_of(FORKED, reach) for reach in range(8)], above)

    def test_above_rises_whatever_the_numbering(self):
        self.assertEqual(above_of([-1] + list(range(39)), 0), list(range(40)))
        self.assertEqual(above_of([-1] + list(range(39)), 36), [36, 37, 38, 39])
        self.assertEqual(above_of([6, 0, 1, 6, 3, -1, 5, 5], 6), [0, 1, 2, 3, 4, 6])

    def test_each_is_above_itself_and_what_stands_on_its_way(self):
        for name, below in RIVERS.items():
            ways = [steps_down(below, reach) for reach in range(len(below))]
            for reach in range(len(below)):
                with self.subTest(name, reach=reach):
                    told = above_of(below, reach)
                    self.assertIn(reach, told)
                    self.assertEqual(told, [other for other, way in enumerate(ways) if reach in way])


class TopsFirst(unittest.TestCase):
    def test_longer_ways_first_then_the_lesser_reach(self):
        self.assertEqual(tops_first(FORKED), [0, 1, 7, 2, 3, 6, 4, 5])
        self.assertEqual(tops_first([6, 0, 1, 6, 3, -1, 5, 5]), [2, 1, 4, 0, 3, 6, 7, 5])

    def test_in_a_row(self):
        self.assertEqual(tops_first([-1]), [0])
        self.assertEqual(tops_first(chain(40)), list(range(40)))
        self.assertEqual(tops_first([-1] + list(range(39))), list(range(39, -1, -1)))

    def test_equally_long_ways(self):
        self.assertEqual(tops_first([-1] * 40), list(range(40)))
        star = [reach for reach in range(40) if reach != 17] + [17]
        self.assertEqual(tops_first(RIVERS["forty, a star"]), star)

    def test_every_river(self):
        for name, below in RIVERS.items():
            with self.subTest(name):
                told = tops_first(below)
                self.assertEqual(sorted(told), list(range(len(below))))
                for ahead, behind in zip(told, told[1:]):
                    longer = len(steps_down(below, ahead)) - len(steps_down(below, behind))
                    self.assertTrue(longer > 0 or longer == 0 and ahead < behind)


class Mouths(unittest.TestCase):
    def test_one_mouth(self):
        self.assertEqual(mouths_of([-1]), [0])
        self.assertEqual(mouths_of(chain(40)), [39])
        self.assertEqual(mouths_of([-1, 0, 1]), [0])
        self.assertEqual(mouths_of(RIVERS["forty, a star"]), [17])

    def test_several_mouths_rise(self):
        self.assertEqual(mouths_of(FORKED), [4, 5])
        self.assertEqual(mouths_of([-1] * 40), list(range(40)))
        self.assertEqual(mouths_of(RIVERS["forty, five mouths"]), [0, 3, 6, 9, 12])
        self.assertEqual(mouths_of([-1, 2, 3, -1, -1]), [0, 3, 4])


class Stretches(unittest.TestCase):
    def check_refused(self, below, start, stop):
        with self.assertRaises(NoReach) as caught:
            stretch_of(below, start, stop)
        self.assertIs(type(caught.exception), NoReach)

    def test_the_stop_minus_one_is_all_of_the_way(self):
        self.assertEqual(stretch_of(FORKED, 0, -1), [0, 3, 5])
        self.assertEqual(stretch_of(FORKED, 5, -1), [5])
        self.assertEqual(stretch_of(chain(40), 0, -1), list(range(40)))

    def test_the_stop_at_the_start(self):
        self.assertEqual(stretch_of(FORKED, 0, 0), [])
        self.assertEqual(stretch_of(FORKED, 5, 5), [])
        self.assertEqual(stretch_of([-1], 0, 0), [])

    def test_a_stop_on_the_way(self):
        self.assertEqual(stretch_of(FORKED, 0, 3), [0])
        self.assertEqual(stretch_of(FORKED, 7, 2), [7])
        self.assertEqual(stretch_of(chain(40), 3, 30), list(range(3, 30)))

    def test_the_stop_at_the_mouth(self):
        self.assertEqual(stretch_of(FORKED, 0, 5), [0, 3])
        self.assertEqual(stretch_of(FORKED, 7, 5), [7, 2])
        self.assertEqual(stretch_of(chain(40), 0, 39), list(range(39)))

    def test_every_start_and_stop(self):
        for name, below in RIVERS.items():
            for start in range(len(below)):
                way = steps_down(below, start)
                for stop in range(-3, len(below) + 3):
                    with self.subTest(name, start=start, stop=stop):
                        if stop == -1:
                            self.assertEqual(stretch_of(below, start, stop), way)
                        elif stop in way:
                            self.assertEqual(stretch_of(below, start, stop), way[:way.index(stop)])
                        else:
                            self.check_refused(below, start, stop)

    def test_a_reach_that_is_not_on_the_way(self):
        self.check_refused(FORKED, 3, 0)
        self.check_refused(FORKED, 0, 1)
        self.check_refused(FORKED, 0, 4)
        self.check_refused(chain(40), 39, 38)

    def test_stops_that_are_no_reaches(self):
        for stop in (-2, -3, -8, -9, -10 ** 20, -MANY_FIGURES, 8, 9, 40, 10 ** 20, MANY_FIGURES):
            for start in range(8):
                self.check_refused(FORKED, start, stop)

    def test_the_refusal_is_of_its_own_class(self):
        for taken in (NoReach, SluiceError, ValueError):
            with self.assertRaises(taken):
                stretch_of(FORKED, 0, 1)
        try:
            stretch_of(FORKED, 0, 1)
        except SluiceError as refusal:
            classes = [value for value in vars(errors).values() if isinstance(value, type)]
            under = [one for one in classes if isinstance(refusal, one)]
            self.assertCountEqual(under, [SluiceError, NoReach])

    def test_a_refusal_changes_nothing(self):
        below = list(FORKED)
        self.check_refused(below, 0, 1)
        self.assertEqual(below, FORKED)
        self.assertEqual(stretch_of(below, 0, 5), [0, 3])


class ListsOfOnesOwn(unittest.TestCase):
    def test_all_that_tell_lists(self):
        for name, below in RIVERS.items():
            with self.subTest(name):
                check_own(self, tops_first, list(below))
                check_own(self, mouths_of, list(below))
                for reach in range(len(below)):
                    check_own(self, way_of, list(below), reach)
                    check_own(self, above_of, list(below), reach)
                    check_own(self, stretch_of, list(below), reach, -1)
                    check_own(self, stretch_of, list(below), reach, reach)
                    check_own(self, stretch_of, list(below), reach, steps_down(below, reach)[-1])


if __name__ == "__main__":
    unittest.main()
