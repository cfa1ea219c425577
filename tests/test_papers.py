import itertools
import unittest

from samples import FORKED, GREATEST_TAKE, MANY_FIGURES, MOST, chain, check_apart, check_refused, seeded, slow_shows
from samples import slow_stretch, slow_wants, some_day
from sluice.dealing import deal
from sluice.errors import NoPaper
from sluice.papers import comes_ahead, is_dealing, paper_of, shows

# Days 1, 0, 1, all from one reach down.
THREE = [(1, 0, -1, 9), (0, 0, -1, 9), (1, 0, -1, 9)]


class ComesAhead(unittest.TestCase):
    def check(self, number, nth, other, mth, expected):
        self.assertIs(comes_ahead(THREE, number, nth, other, mth), expected)

    def test_days_decide_whatever_the_drops(self):
        for nth, mth in ((1, 1), (9, 1), (1, 9), (MANY_FIGURES, 1), (1, MANY_FIGURES)):
            self.check(1, nth, 0, mth, True)
            self.check(1, nth, 2, mth, True)
            self.check(0, nth, 1, mth, False)
            self.check(2, nth, 1, mth, False)

    def test_drops_decide_on_one_day(self):
        self.check(0, 1, 2, 2, True)
        self.check(2, 1, 0, 2, True)
        self.check(0, 2, 2, 1, False)
        self.check(2, 2, 0, 1, False)
        self.check(2, 9, 0, 10, True)

    def test_numbers_decide_with_alike_drops(self):
        for nth in (1, 2, MOST, MANY_FIGURES):
            self.check(0, nth, 2, nth, True)
            self.check(2, nth, 0, nth, False)

    def test_drops_of_one_licence(self):
        self.check(0, 1, 0, 2, True)
        self.check(0, 2, 0, 1, False)
        self.check(0, 2, 0, 2, False)

    def test_drops_of_many_figures(self):
        self.check(2, MANY_FIGURES, 0, MANY_FIGURES + 1, True)
        self.check(0, MANY_FIGURES + 1, 2, MANY_FIGURES, False)

    def test_start_back_and_most_do_not_decide(self):
        roll = [(4, 7, 5, 9), (4, 0, -1, 0)]
        self.assertIs(comes_ahead(roll, 0, 3, 1, 3), True)
        self.assertIs(comes_ahead(roll, 1, 3, 0, 3), False)

    def test_just_one_of_two_drops_comes_ahead(self):
        drops = list(itertools.product(range(3), range(1, 5)))
        for (number, nth), (other, mth) in itertools.product(drops, drops):
            ahead = comes_ahead(THREE, number, nth, other, mth)
            behind = comes_ahead(THREE, other, mth, number, nth)
            self.assertEqual(ahead + behind, 0 if (number, nth) == (other, mth) else 1)


class Shows(unittest.TestCase):
    def check(self, springs, takes, number, reach, expected, roll=THREE, below=(1, -1)):
        self.assertIs(shows(list(below), springs, roll, takes, number, reach), expected)

    def test_a_reach_off_the_stretch(self):
        roll = [(0, 1, -1, 9), (0, 0, 1, 9)]
        self.check([0, 0], [0, 0], 0, 0, False, roll)
        self.check([0, 0], [0, 0], 1, 1, False, roll)
        self.check([0, 0], [0, 0], 0, 1, True, roll)
        self.check([0, 0], [0, 0], 1, 0, True, roll)

    def test_a_reach_that_holds_less_or_more_than_its_natural_flow(self):
        self.check([6, 0], [2, 2, 1], 2, 0, False)
        self.check([4, 0], [2, 2, 1], 2, 0, False)
        self.check([5, 0], [2, 2, 1], 2, 0, True)
        self.check([5, 1], [2, 2, 1], 2, 1, False)

    def test_all_drops_ahead(self):
        self.check([6, 0], [2, 2, 2], 0, 0, True)
        self.check([6, 0], [2, 2, 2], 2, 0, True)
        self.check([11, 0], [1, 9, 1], 0, 1, True)

    def test_one_drop_behind(self):
        # The third drop of the licence 0 comes behind the second of 2, but the second one ahead of it.
        self.check([6, 0], [3, 2, 1], 2, 0, False)
        self.check([5, 0], [2, 2, 1], 2, 0, True)
        # With alike drops the number decides.
        self.check([5, 0], [1, 2, 2], 0, 0, False)
        self.check([5, 0], [2, 2, 1], 0, 0, True)
        # Each drop of a younger one comes behind.
        self.check([3, 0], [1, 2, 0], 1, 0, False)
        self.check([2, 0], [0, 2, 0], 1, 0, True)

    def test_a_licence_that_holds_nothing_has_no_drops(self):
        self.check([0, 0], [0, 0, 0], 0, 0, True)
        self.check([0, 0], [0, 0, 0], 1, 1, True)

    def test_drops_behind_that_are_held_elsewhere(self):
        roll = [(0, 0, 1, 9), (5, 1, -1, 9)]
        self.check([2, 0], [2, 2], 0, 0, True, roll)
        self.check([2, 0], [2, 2], 1, 1, True, roll)

    def test_it_does_not_hang_on_the_most(self):
        self.check([3], [3], 0, 0, True, [(0, 0, -1, 1)], [-1])

    def test_the_greatest_takes(self):
        roll = [(0, 0, -1, MOST), (0, 0, -1, MOST)]
        self.check([MOST], [MOST, 0], 0, 0, True, roll, [-1])
        self.check([MOST], [MOST, 0], 1, 0, False, roll, [-1])
        self.check([MOST], [MOST // 2, MOST // 2], 1, 0, True, roll, [-1])
        self.check([MOST], [GREATEST_TAKE, GREATEST_TAKE], 1, 0, False, roll, [-1])
        self.check([MOST] * 40, [GREATEST_TAKE, 0], 0, 39, False, roll, chain(40))

    def test_many_takes(self):
        dice = seeded(17)
        seen = {True: 0, False: 0}
        for case in range(300):
            below, springs, roll, calls = some_day(dice, dice.choice((3, MOST)), 6, 8, 2)
            if not roll:
                continue
            takes = deal(below, springs, roll, calls)
            for number in (number for number in range(len(roll)) if dice.randrange(4) == 0):
                takes[number] = dice.randint(0, takes[number] + 1)
            for number, reach in itertools.product(range(len(roll)), range(len(below))):
                expected = slow_shows(below, springs, roll, takes, number, reach)
                seen[expected] += 1
                self.assertIs(shows(below, springs, roll, takes, number, reach), expected)
        self.assertGreater(min(seen.values()), 300)


class Papers(unittest.TestCase):
    def test_none_where_the_take_is_the_want(self):
        self.assertIsNone(paper_of([-1], [5], [(0, 0, -1, 3)], [9], [3], 0))
        self.assertIsNone(paper_of([-1], [5], [(0, 0, -1, 9)], [3], [3], 0))
        self.assertIsNone(paper_of([-1], [0], [(0, 0, -1, 0)], [9], [0], 0))
        self.assertIsNone(paper_of([-1], [3], [(0, 0, -1, 3)], [3], [3], 0))

    def test_a_paper(self):
        told = paper_of([-1], [5], THREE, [9, 2, 9], [2, 2, 1], 2)
        self.assertEqual(told, (0, [(0, 2), (1, 2), (2, 1)]))
        self.assertEqual([type(told), type(told[1])], [tuple, list])

    def test_the_first_of_several_reaches_from_the_start_on(self):
        roll = [(0, 2, -1, 9)]
        self.assertEqual(paper_of([-1, 0, 1], [0, 0, 4], roll, [9], [4], 0), (2, [(0, 4)]))
        self.assertEqual(paper_of([-1, 0, 1], [0, 1, 4], roll, [9], [4], 0), (2, [(0, 4)]))
        roll = [(0, 2, -1, 9), (0, 1, -1, 3)]
        # Reach 2 has a drop free; 1 and 0 are both dry.
        self.assertEqual(paper_of([-1, 0, 1], [0, 2, 4], roll, [9, 9], [3, 3], 0), (1, [(0, 3), (1, 3)]))

    def test_a_dry_reach_that_does_not_show_it_is_passed_by(self):
        # In reach 0 the younger licence 1 holds a drop and gives it back ahead of reach 1.
        roll = [(0, 0, -1, 9), (5, 0, 1, 9), (0, 1, -1, 2)]
        takes = deal(chain(2), [3, 0], roll, [9, 2, 2])
        self.assertEqual(takes, [2, 1, 1])
        self.assertEqual(paper_of(chain(2), [3, 0], roll, [9, 2, 2], takes, 0), (1, [(0, 2), (2, 1)]))
        self.assertEqual(paper_of(chain(2), [3, 0], roll, [9, 2, 2], takes, 1), (0, [(0, 2), (1, 1)]))

    def test_the_rows_rise_without_takes_of_nought(self):
        roll = [(3, 0, -1, 9), (2, 0, -1, 0), (1, 0, -1, 2), (0, 3, -1, 1), (3, 7, -1, 9)]
        springs = [4, 0, 0, 0, 0, 0, 0, 9]
        takes = deal(FORKED, springs, roll, [9] * 5)
        self.assertEqual(takes, [1, 0, 2, 1, 9])
        self.assertEqual(paper_of(FORKED, springs, roll, [9] * 5, takes, 0), (3, [(0, 1), (2, 2), (3, 1)]))

    def test_a_paper_without_rows(self):
        self.assertEqual(paper_of([-1], [0], [(0, 0, -1, 3)], [9], [0], 0), (0, []))
        self.assertEqual(paper_of(chain(3), [0, 0, 5], [(0, 1, -1, 3), (0, 2, -1, 3)], [9, 9], [0, 3], 0), (1, []))

    def test_no_paper(self):
        check_refused(self, NoPaper, paper_of, [-1], [5], [(0, 0, -1, 9)], [9], [4], 0)
        check_refused(self, NoPaper, paper_of, [-1], [5], THREE, [9, 2, 9], [3, 2, 0], 2)
        check_refused(self, NoPaper, paper_of, [-1], [3], THREE, [9, 9, 9], [1, 2, 0], 1)
        check_refused(self, NoPaper, paper_of, [-1], [5], [(0, 0, -1, 9)], [6], [0], 0)

    def test_no_paper_is_refused_for_one_alone(self):
        self.assertEqual(paper_of([-1], [5], THREE, [9, 2, 9], [3, 2, 0], 0), (0, [(0, 3), (1, 2)]))

    def test_of_a_dealing_each_short_one_has_a_paper(self):
        dice = seeded(18)
        papers = 0
        for case in range(200):
            below, springs, roll, calls = some_day(dice, dice.choice((4, MOST)), 12, 20, 3)
            takes, wants = deal(below, springs, roll, calls), slow_wants(roll, calls)
            for number in range(len(roll)):
                told = paper_of(below, springs, roll, calls, takes, number)
                if takes[number] == wants[number]:
                    self.assertIsNone(told)
                    continue
                papers += 1
                stretch = slow_stretch(below, roll[number])
                reach = [one for one in stretch if slow_shows(below, springs, roll, takes, number, one)][0]
                rows = [(other, take) for other, take in enumerate(takes)
                        if take and reach in slow_stretch(below, roll[other])]
                self.assertEqual(told, (reach, rows))
        self.assertGreater(papers, 300)


class IsDealing(unittest.TestCase):
    def check(self, springs, takes, expected, calls=(9, 2, 9)):
        self.assertIs(is_dealing([-1], springs, THREE, list(calls), takes), expected)

    def test_the_dealing(self):
        self.check([5], [2, 2, 1], True)
        self.check([20], [9, 2, 9], True)
        self.check([0], [0, 0, 0], True)
        self.assertIs(is_dealing([-1], [5], [], [], []), True)

    def test_one_drop_more_or_less_or_put_to_another(self):
        for takes in ([3, 2, 1], [2, 3, 1], [2, 2, 2], [1, 2, 1], [2, 1, 1], [2, 2, 0]):
            self.check([5], takes, False)
        for takes in ([3, 1, 1], [3, 2, 0], [1, 2, 2], [1, 3, 1], [2, 1, 2], [2, 3, 0]):
            self.check([5], takes, False)

    def test_takes_below_nought(self):
        self.check([5], [-1, 2, 1], False)
        self.check([5], [4, 2, -1], False)
        self.check([0], [-1, 0, 1], False)
        self.check([0], [0, 0, 0], True, (0, 0, 0))
        self.check([0], [0, -1, 0], False, (0, 0, 0))

    def test_takes_above_the_want(self):
        self.check([30], [9, 3, 9], False)
        self.check([30], [10, 2, 9], False)
        self.check([30], [9, 2, 9], True)
        self.check([30], [9, 2, 9], False, (8, 2, 9))

    def test_more_than_there_is(self):
        self.check([5], [9, 2, 9], False)
        self.check([19], [9, 2, 9], False)

    def test_the_greatest_takes_either_way(self):
        for take in (GREATEST_TAKE, -GREATEST_TAKE):
            self.check([5], [take, 2, 1], False)
            self.check([5], [2, take, 1], False)
            self.check([5], [take, -take, 5], False)
            self.check([MOST], [take] * 3, False)

    def test_a_reach_below_nought_far_from_who_is_short(self):
        roll = [(0, 0, -1, 9), (0, 1, -1, 9)]
        self.assertIs(is_dealing([-1, -1], [3, 4], roll, [9, 4], [3, 4]), True)
        self.assertIs(is_dealing([-1, -1], [3, 3], roll, [9, 4], [3, 4]), False)

    def test_just_the_takes_that_are_dealt(self):
        dice = seeded(19)
        for case in range(120):
            below, springs, roll, calls = some_day(dice, 3, 4, 4, 2)
            wants = slow_wants(roll, calls)
            every = itertools.product(*[range(-1, want + 2) for want in wants])
            told = [list(takes) for takes in every if is_dealing(below, springs, roll, calls, list(takes))]
            self.assertEqual(told, [deal(below, springs, roll, calls)])

    def test_great_dealings_and_what_lies_beside_them(self):
        dice = seeded(20)
        for case in range(60):
            below, springs, roll, calls = some_day(dice, MOST, 30, 30, 3)
            takes = deal(below, springs, roll, calls)
            self.assertIs(is_dealing(below, springs, roll, calls, takes), True)
            for number in range(len(roll)):
                for other in (takes[number] - 1, takes[number] + 1, -takes[number] - 1, GREATEST_TAKE, -GREATEST_TAKE):
                    beside = takes[:number] + [other] + takes[number + 1:]
                    self.assertIs(is_dealing(below, springs, roll, calls, beside), False)


class ListsOfOnesOwn(unittest.TestCase):
    def test_what_is_handed_in_and_what_is_told(self):
        dice = seeded(21)
        for case in range(60):
            below, springs, roll, calls = some_day(dice, MOST, 10, 10, 2)
            takes = deal(below, springs, roll, calls)
            with self.subTest(case=case):
                check_apart(self, is_dealing, list(below), list(springs), list(roll), list(calls), list(takes))
                for number in range(len(roll)):
                    handed = (list(below), list(springs), list(roll), list(calls), list(takes), number)
                    check_apart(self, paper_of, *handed)
                    check_apart(self, shows, list(below), list(springs), list(roll), list(takes), number, 0)
        check_apart(self, comes_ahead, list(THREE), 0, 1, 2, 1)


if __name__ == "__main__":
    unittest.main()
