import unittest

from samples import FORKED, MANY_FIGURES, MOST, RIVERS, chain, check_own, seeded, slow_stretch, some_roll, steps_down
from sluice.licences import groups_of, is_licence, ranked, reaches_of, wants_of

LAST_DAY = 10 ** 6


class IsLicence(unittest.TestCase):
    def check(self, one, expected, below=FORKED):
        with self.subTest(one=[min(max(number, -10 ** 20), 10 ** 20) for number in one]):
            self.assertIs(is_licence(below, one), expected)

    def test_days(self):
        for day in (0, 1, 17, LAST_DAY - 1, LAST_DAY):
            self.check((day, 0, -1, 5), True)
        for day in (-1, -2, -MANY_FIGURES, LAST_DAY + 1, 10 ** 7, MANY_FIGURES):
            self.check((day, 0, -1, 5), False)

    def test_starts(self):
        for start in range(8):
            self.check((0, start, -1, 5), True)
        for start in (-1, -2, -8, -9, -MANY_FIGURES, 8, 9, 40, MANY_FIGURES):
            self.check((0, start, -1, 5), False)
        self.check((0, 0, -1, 5), True, [-1])
        self.check((0, 1, -1, 5), False, [-1])
        self.check((0, 39, -1, 5), True, chain(40))
        self.check((0, 40, -1, 5), False, chain(40))

    def test_mosts(self):
        for most in (0, 1, 5, MOST - 1, MOST):
            self.check((0, 0, -1, most), True)
            self.check((0, 0, 5, most), True)
        for most in (-1, -MOST, -MANY_FIGURES, MOST + 1, 10 ** 13, MANY_FIGURES):
            self.check((0, 0, -1, most), False)

    def test_a_back_on_the_way(self):
        self.check((0, 0, 3, 5), True)
        self.check((0, 0, 5, 5), True)
        self.check((0, 7, 2, 5), True)

    def test_a_back_at_the_start(self):
        for start in range(8):
            self.check((0, start, start, 5), False)
        self.check((0, 0, 0, 5), False, [-1])

    def test_a_back_off_the_way(self):
        self.check((0, 0, 1, 5), False)
        self.check((0, 0, 4, 5), False)
        self.check((0, 3, 0, 5), False)
        self.check((0, 5, 3, 5), False)

    def test_a_back_that_is_no_reach(self):
        for back in (-2, -3, -5, -6, -8, -9, -MANY_FIGURES, 8, 9, 40, MANY_FIGURES):
            for start in range(8):
                self.check((0, start, back, 5), False)

    def test_a_start_that_is_none_with_any_back(self):
        for start in (-1, -8, 8, MANY_FIGURES):
            for back in (-1, 3, 5, start):
                self.check((0, start, back, 5), False)

    def test_each_bound_by_itself_with_the_others_at_theirs(self):
        self.check((LAST_DAY, 7, 5, MOST), True)
        self.check((LAST_DAY + 1, 7, 5, MOST), False)
        self.check((LAST_DAY, 8, 5, MOST), False)
        self.check((LAST_DAY, 7, 3, MOST), False)
        self.check((LAST_DAY, 7, 5, MOST + 1), False)

    def test_every_start_and_back(self):
        for name, below in RIVERS.items():
            for start in range(len(below)):
                lower = steps_down(below, start)[1:]
                for back in range(-3, len(below) + 3):
                    with self.subTest(name, start=start, back=back):
                        self.assertIs(is_licence(below, (3, start, back, 4)), back == -1 or back in lower)

    def test_the_river_stays_as_it_was(self):
        below = list(FORKED)
        for one in ((0, 0, 5, 5), (0, 0, 0, 5), (0, -9, -1, 5)):
            first = is_licence(below, one)
            self.assertEqual(below, FORKED)
            self.assertIs(is_licence(below, one), first)


class ReachesOf(unittest.TestCase):
    def test_one_that_gives_nothing_back(self):
        self.assertEqual(reaches_of(FORKED, (0, 0, -1, 5)), [0, 3, 5])
        self.assertEqual(reaches_of(FORKED, (9, 4, -1, 0)), [4])
        self.assertEqual(reaches_of(chain(40), (0, 0, -1, MOST)), list(range(40)))

    def test_one_that_gives_back(self):
        self.assertEqual(reaches_of(FORKED, (0, 0, 3, 5)), [0])
        self.assertEqual(reaches_of(FORKED, (0, 0, 5, 5)), [0, 3])
        self.assertEqual(reaches_of(chain(40), (0, 4, 39, 5)), list(range(4, 39)))

    def test_all_licences_of_every_river(self):
        for name, below in RIVERS.items():
            for start in range(len(below)):
                for back in [-1] + steps_down(below, start)[1:]:
                    with self.subTest(name, start=start, back=back):
                        one = (2, start, back, 7)
                        self.assertEqual(reaches_of(below, one), slow_stretch(below, one))


class Ranks(unittest.TestCase):
    def check(self, days, rank, groups):
        roll = [(day, 0, -1, 5) for day in days]
        self.assertEqual(ranked(roll), rank)
        self.assertEqual(groups_of(roll), groups)

    def test_the_empty_roll(self):
        self.check([], [], [])

    def test_one_licence(self):
        self.check([LAST_DAY], [0], [[0]])

    def test_days_that_do_not_rise_with_the_numbers(self):
        self.check([4, 0, 4, 2, 0], [1, 4, 3, 0, 2], [[1, 4], [3], [0, 2]])
        self.check([9, 8, 7], [2, 1, 0], [[2], [1], [0]])
        self.check([10, 9, 100], [1, 0, 2], [[1], [0], [2]])

    def test_all_of_one_day(self):
        self.check([3] * 60, list(range(60)), [list(range(60))])

    def test_sixty_days(self):
        self.check(list(range(60)), list(range(60)), [[number] for number in range(60)])
        self.check(list(range(60, 0, -1)), list(range(59, -1, -1)), [[number] for number in range(59, -1, -1)])

    def test_sixty_licences_of_seven_days(self):
        days = [number * 5 % 7 for number in range(60)]
        groups = [[number for number in range(60) if days[number] == day] for day in range(7)]
        self.check(days, sum(groups, []), groups)

    def test_alike_but_for_their_numbers(self):
        roll = [(5, 0, 3, 9), (1, 0, -1, 4), (5, 0, 3, 9), (5, 0, 3, 9), (1, 0, -1, 4)]
        self.assertEqual(ranked(roll), [1, 4, 0, 2, 3])
        self.assertEqual(groups_of(roll), [[1, 4], [0, 2, 3]])

    def test_start_back_and_most_do_not_rank(self):
        roll = [(1, 7, 5, 9), (1, 0, -1, 0), (0, 6, 4, MOST), (1, 3, -1, 5)]
        self.assertEqual(ranked(roll), [2, 0, 1, 3])
        self.assertEqual(groups_of(roll), [[2], [0, 1, 3]])


class Wants(unittest.TestCase):
    def test_no_licences(self):
        self.assertEqual(wants_of([], []), [])

    def test_a_call_below_at_and_above_the_most(self):
        roll = [(0, 0, -1, 5), (0, 0, 3, 5), (9, 0, -1, 5)]
        self.assertEqual(wants_of(roll, [4, 5, 6]), [4, 5, 5])
        self.assertEqual(wants_of(roll, [6, 4, 5]), [5, 4, 5])

    def test_noughts_and_the_greatest(self):
        roll = [(0, 0, -1, most) for most in (0, 0, MOST, MOST, MOST)]
        self.assertEqual(wants_of(roll, [0, MOST, 0, MOST, MOST - 1]), [0, 0, 0, MOST, MOST - 1])

    def test_sixty(self):
        roll = [(number % 3, 0, -1, number * 7 % 60) for number in range(60)]
        calls = [number * 11 % 60 for number in range(60)]
        self.assertEqual(wants_of(roll, calls), [min(number * 7 % 60, number * 11 % 60) for number in range(60)])


class ListsOfOnesOwn(unittest.TestCase):
    def test_all_that_tell_lists(self):
        dice = seeded(2)
        for name, below in RIVERS.items():
            with self.subTest(name):
                roll = some_roll(dice, below, 20, 5, MOST)
                calls = [dice.randint(0, MOST) for one in roll]
                check_own(self, reaches_of, list(below), roll[0])
                check_own(self, ranked, list(roll))
                check_own(self, groups_of, list(roll))
                check_own(self, wants_of, list(roll), list(calls))
        check_own(self, ranked, [])
        check_own(self, groups_of, [])
        check_own(self, wants_of, [], [])

    def test_the_groups_are_lists_of_ones_own(self):
        roll = [(1, 0, -1, 5), (0, 0, -1, 5), (1, 0, -1, 5)]
        told = groups_of(roll)
        for group in told:
            self.assertIs(type(group), list)
            group.clear()
        self.assertEqual(groups_of(roll), [[1], [0, 2]])


if __name__ == "__main__":
    unittest.main()
