import unittest

from samples import FORKED, GREATEST_TAKE, MOST, chain, check_apart, check_own, check_refused, seeded
from sluice.errors import NoPond, NoReach, TooMuch
from sluice.ponds import evening, let_out, pond_calls

ROLL = [(0, 5, -1, 9), (0, 0, -1, 9), (3, 7, -1, 9), (3, 0, 3, 9), (4, 6, -1, 0)]
# The ponds are at the reaches 7, 0 and 6.
PONDS = [(2, 50, 10), (1, 20, 0), (4, MOST, 1000)]
KEPT = [30, 20, 0]
TEN = [(number, 100 + number, 0) for number in range(10)]
TEN_ROLL = [(0, number, -1, 9) for number in range(10)]


class LetOut(unittest.TestCase):
    def check(self, lets, kept):
        self.assertEqual(let_out(FORKED, ROLL, PONDS, KEPT, lets), kept)

    def check_no(self, refusal, *lets):
        check_refused(self, refusal, let_out, list(FORKED), list(ROLL), list(PONDS), list(KEPT), list(lets))

    def test_no_lets_and_no_ponds(self):
        self.check([], KEPT)
        self.assertEqual(let_out([-1], [], [], [], []), [])

    def test_lets_of_nothing_some_and_all(self):
        self.check([(0, -1, 0)], [30, 20, 0])
        self.check([(0, -1, 1)], [29, 20, 0])
        self.check([(0, -1, 30)], [0, 20, 0])
        self.check([(2, -1, 0)], [30, 20, 0])
        self.check([(1, -1, 20)], [30, 0, 0])

    def test_one_more_than_all(self):
        self.check_no(TooMuch, (0, -1, 31))
        self.check_no(TooMuch, (2, -1, 1))
        self.check_no(TooMuch, (0, -1, GREATEST_TAKE))

    def test_below_nought(self):
        self.check_no(TooMuch, (0, -1, -1))
        self.check_no(TooMuch, (2, -1, -1))
        self.check_no(TooMuch, (0, -1, -GREATEST_TAKE))

    def test_several_lets_of_one_pond(self):
        self.check([(0, -1, 10), (1, 3, 5), (0, 5, 20)], [0, 15, 0])
        self.check([(0, -1, 30), (0, -1, 0)], [0, 20, 0])
        self.check_no(TooMuch, (0, -1, 10), (0, 5, 21))
        self.check_no(TooMuch, (0, -1, 30), (0, 5, 1))
        self.check([(0, 7, 1)] * 30, [0, 20, 0])

    def test_each_reach_of_the_way_and_the_mouth(self):
        for reach in (7, 2, 5, -1):
            self.check([(0, reach, 3)], [27, 20, 0])
        for reach in (0, 3, 5, -1):
            self.check([(1, reach, 3)], [30, 17, 0])

    def test_a_pond_that_is_none(self):
        for pond in (-1, -2, -3, 3, 4, GREATEST_TAKE, -GREATEST_TAKE):
            self.check_no(NoPond, (pond, -1, 1))
        check_refused(self, NoPond, let_out, [-1], [(0, 0, -1, 5)], [], [], [(0, -1, 0)])

    def test_a_reach_off_the_way(self):
        for reach in (0, 1, 3, 4, 6, 8, 40, -2, -3, -8, GREATEST_TAKE, -GREATEST_TAKE):
            self.check_no(NoReach, (0, reach, 1))
        for reach in (7, 2, 1, 4):
            self.check_no(NoReach, (1, reach, 1))
        self.check_no(NoReach, (2, 5, 0))

    def test_two_things_wrong_at_once(self):
        self.check_no(NoPond, (3, 0, 1))
        self.check_no(NoPond, (-1, 99, -1))
        self.check_no(NoPond, (3, -1, 99))
        self.check_no(NoReach, (0, 0, 31))
        self.check_no(NoReach, (0, -2, -1))

    def test_the_first_that_is_refused_tells_it(self):
        no_pond, no_reach, too_much = (9, -1, 0), (0, 0, 0), (0, -1, 99)
        self.check_no(NoPond, no_pond, no_reach, too_much)
        self.check_no(NoReach, no_reach, no_pond, too_much)
        self.check_no(TooMuch, too_much, no_pond, no_reach)

    def test_a_bad_let_behind_good_ones(self):
        good = [(0, -1, 10), (1, 3, 5), (0, 5, 20)]
        self.check_no(NoPond, *good, (3, -1, 0))
        self.check_no(NoReach, *good, (1, 2, 0))
        self.check_no(TooMuch, *good, (0, -1, 1))
        self.check_no(TooMuch, *[(0, 7, 0)] * 59, (0, -1, 31))

    def test_ten_ponds_and_sixty_lets(self):
        ponds = [(number, 204, 0) for number in range(10)]
        lets = [(place % 10, -1, place) for place in range(60)]
        left = [204 - sum(range(place, 60, 10)) for place in range(10)]
        self.assertEqual(let_out(chain(10), TEN_ROLL, ponds, [204] * 10, lets), left)
        self.assertEqual(left[9], 0)
        check_refused(self, TooMuch, let_out, chain(10), list(TEN_ROLL), ponds, [203] * 10, lets)

    def test_the_greatest_amounts(self):
        roll, ponds = [(0, 0, -1, MOST)], [(0, MOST, 0)]
        self.assertEqual(let_out([-1], roll, ponds, [MOST], [(0, 0, MOST)]), [0])
        self.assertEqual(let_out([-1], roll, ponds, [MOST], [(0, 0, 1)]), [MOST - 1])
        check_refused(self, TooMuch, let_out, [-1], roll, ponds, [MOST], [(0, 0, MOST + 1)])


class PondCalls(unittest.TestCase):
    def test_no_ponds(self):
        self.assertEqual(pond_calls([], [], [], []), [])
        self.assertEqual(pond_calls(ROLL, [], [], [1, 2, 3, 4, 5]), [1, 2, 3, 4, 5])

    def test_the_calls_of_ponds_are_lessened_and_no_others(self):
        self.assertEqual(pond_calls(ROLL, PONDS, [30, 13, 0], [90, 90, 90, 90, 90]), [90, 7, 20, 90, 90])
        self.assertEqual(pond_calls(ROLL, PONDS, [30, 13, 0], [90, 7, 20, 90, 90]), [90, 7, 20, 90, 90])
        self.assertEqual(pond_calls(ROLL, PONDS, [30, 13, 0], [90, 6, 19, 90, 90]), [90, 6, 19, 90, 90])
        self.assertEqual(pond_calls(ROLL, PONDS, [30, 13, 0], [0] * 5), [0] * 5)

    def test_it_does_not_hang_on_the_most(self):
        self.assertEqual(pond_calls([(0, 0, -1, 3)], [(0, 50, 0)], [10], [45]), [40])

    def test_a_full_pond_and_one_without_room(self):
        self.assertEqual(pond_calls(ROLL, PONDS, [50, 20, MOST], [9] * 5), [9, 0, 0, 9, 0])
        self.assertEqual(pond_calls([(0, 0, -1, 3)], [(0, 0, 0)], [0], [MOST]), [0])

    def test_the_greatest_room(self):
        roll = [(0, 0, -1, MOST)]
        self.assertEqual(pond_calls(roll, [(0, MOST, 0)], [0], [MOST]), [MOST])
        self.assertEqual(pond_calls(roll, [(0, MOST, 0)], [1], [MOST]), [MOST - 1])
        self.assertEqual(pond_calls(roll, [(0, MOST, 0)], [MOST - 1], [MOST]), [1])

    def test_ten_ponds(self):
        kept = [10 * place for place in range(10)]
        self.assertEqual(pond_calls(TEN_ROLL, TEN, kept, [60] * 10), [min(60, 100 - 9 * place) for place in range(10)])


class Evening(unittest.TestCase):
    def check(self, leak, full, loss):
        for take in (0, full // 2, full):
            told = evening([(0, MOST, leak)], [full - take], [take])
            self.assertEqual(told, ([full - loss], [loss]))
            self.assertIs(type(told), tuple)

    def test_no_ponds(self):
        self.assertEqual(evening([], [], []), ([], []))
        self.assertEqual(evening([], [], [3, 4]), ([], []))

    def test_leaks_rounded_down(self):
        for full, loss in ((0, 0), (1, 0), (999, 0), (1000, 1), (1001, 1), (1999, 1), (2000, 2), (MOST, MOST // 1000)):
            self.check(1, full, loss)
        for full, loss in ((0, 0), (1, 0), (2, 1), (1000, 999), (1001, 999), (1002, 1000), (MOST, 999 * 10 ** 9)):
            self.check(999, full, loss)
        for full in (0, 1, 1000, MOST):
            self.check(0, full, 0)
            self.check(1000, full, full)
        self.check(500, 7, 3)
        self.check(1, MOST - 1, 10 ** 9 - 1)

    def test_each_pond_by_the_number_of_its_licence(self):
        takes = [1, 2, 3, 4, 5]
        # What they keep by then is 33, 20 and 5.
        self.assertEqual(evening(PONDS, [30, 18, 0], takes), ([33, 20, 0], [0, 0, 5]))
        self.assertEqual(evening([(2, 50, 100), (1, 90, 500)], [30, 19], takes), ([30, 11], [3, 10]))

    def test_ten_ponds(self):
        ponds = [(number, MOST, number * 100) for number in range(9, -1, -1)]
        after, lost = evening(ponds, [1000] * 10, [10 * number for number in range(10)])
        self.assertEqual(lost, [(1000 + 10 * number) * number // 10 for number in range(9, -1, -1)])
        self.assertEqual(after, [1000 + 10 * number - loss for number, loss in zip(range(9, -1, -1), lost)])

    def test_nothing_is_lost_from_sight(self):
        dice = seeded(27)
        for case in range(300):
            room, leak = dice.choice((0, 1, 999, 1000, MOST, dice.randint(0, MOST))), dice.randint(0, 1000)
            kept = dice.randint(0, room)
            take = dice.randint(0, room - kept)
            (after,), (lost,) = evening([(0, room, leak)], [kept], [take])
            self.assertEqual(after + lost, kept + take)
            self.assertTrue(lost * 1000 <= (kept + take) * leak < (lost + 1) * 1000)


class ListsOfOnesOwn(unittest.TestCase):
    def test_what_is_handed_in_and_what_is_told(self):
        lets = [(0, -1, 10), (1, 3, 5), (0, 5, 20)]
        check_own(self, let_out, list(FORKED), list(ROLL), list(PONDS), list(KEPT), lets)
        check_own(self, let_out, list(FORKED), list(ROLL), list(PONDS), list(KEPT), [])
        check_own(self, let_out, [-1], [], [], [], [])
        check_own(self, pond_calls, list(ROLL), list(PONDS), list(KEPT), [90] * 5)
        check_own(self, pond_calls, list(ROLL), [], [], [90] * 5)
        check_apart(self, evening, list(PONDS), [30, 18, 0], [1, 2, 3, 4, 5])
        check_apart(self, evening, [], [], [])


if __name__ == "__main__":
    unittest.main()
