import copy
import unittest

from samples import FORKED, MANY_FIGURES, MOST, check_own, check_refused, chain, seeded, slow_day, slow_deal, some_amounts
from samples import some_lets, some_river, spoil, steps_down, told_by, try_some_deed
from sluice.books import Book
from sluice.dealing import deal
from sluice.deeds import replayed
from sluice.errors import Fixed, Harms, NoDay, NoHolder, NoLicence, NoNumber, NoPond, NoReach, NoRiver, NotYours
from sluice.errors import SluiceError, TooMuch
from sluice.papers import paper_of
from sluice.rolls import Roll

NO_NUMBERS = [-1, -2, -MANY_FIGURES, 3, 4, 60, MANY_FIGURES]
DRY = [0] * 8


def all_told_by(book):
    """All that a Book tells of itself, the papers of its numbers among it."""
    papers = []
    for number in range(-1, len(book.roll()) + 1):
        try:
            papers.append(book.why(number))
        except SluiceError as refusal:
            papers.append(type(refusal))
    return told_by(book) + (book.ponds(), book.kept(), book.record(), papers)


def some_started():
    """Three licences, the last one giving back: at the reaches 7, 2 and 0."""
    book = Book(FORKED)
    book.file("anna", 7, 10)
    book.file("bert", 2, 20)
    book.turn()
    book.file("carl", 0, 30, 5)
    return book


def with_pond():
    book = some_started()
    book.pond(0, "anna", 15, 100)
    return book


class Case(unittest.TestCase):
    def refuse(self, refusal, book, ask, *handed):
        before = copy.deepcopy(all_told_by(book))
        check_refused(self, refusal, ask, *handed)
        self.assertEqual(all_told_by(book), before)


class Beginning(Case):
    def test_a_book_is_a_roll(self):
        book = Book(FORKED)
        self.assertIsInstance(book, Roll)
        self.assertEqual(told_by(book), (0, [], [], []))
        self.assertEqual((book.ponds(), book.kept(), book.record()), ([], [], []))

    def test_a_filing_with_back_left_out_is_like_one_with_none(self):
        left_out, told = Book(FORKED), Book(FORKED)
        left_out.file("anna", 7, 10)
        told.file("anna", 7, 10, -1)
        self.assertEqual(all_told_by(left_out), all_told_by(told))
        # A pond is put at licences alone that do not give back.
        for book in (left_out, told):
            self.assertEqual(book.pond(0, "anna", 15), 0)
            book.run([2] * 8, [9])
        self.assertEqual(all_told_by(left_out), all_told_by(told))

    def test_no_river(self):
        for below in ([], [0], [1, 0], [-2], [1], chain(41), [MANY_FIGURES]):
            check_refused(self, NoRiver, Book, below)

    def test_the_river_handed_in_is_not_kept(self):
        below = list(FORKED)
        book = Book(below)
        book.file("anna", 7, 10)
        below.clear()
        self.assertEqual(book.run([1] * 8, [9])[2], [1, 1, 1, 3, 2, 5, 1, 0])
        self.assertEqual(book.why(0), (7, [(0, 1)]))

    def test_books_are_apart(self):
        one, other = some_started(), Book(FORKED)
        one.pond(0, "anna", 5)
        one.run([1] * 8, [1, 1, 1])
        self.assertEqual(all_told_by(other), all_told_by(Book(FORKED)))

    def test_the_deeds_of_a_roll_are_refused_as_there(self):
        book = some_started()
        self.refuse(NoHolder, book, book.file, "Anna", 0, 1)
        self.refuse(NoLicence, book, book.file, "anna", 0, 0)
        self.refuse(NoNumber, book, book.drop, 3, "anna")
        self.refuse(NotYours, book, book.sell, 0, "bert", "carl")
        self.refuse(TooMuch, book, book.lapse, [0, 0, -1])


class Pond(Case):
    def test_its_place_and_what_it_keeps(self):
        book = some_started()
        deeds = book.deeds()
        self.assertEqual(book.pond(1, "bert", 50, 7), 0)
        self.assertEqual(book.pond(0, "anna", 40), 1)
        self.assertEqual(book.ponds(), [(1, 50, 7), (0, 40, 0)])
        self.assertEqual(book.kept(), [0, 0])
        self.assertEqual(book.deeds(), deeds)

    def test_room_and_leak_at_their_bounds(self):
        for room, leak in ((0, 0), (MOST, 1000), (MOST, 0), (0, 1000), (1, 1)):
            book = some_started()
            self.assertEqual(book.pond(0, "anna", room, leak=leak), 0)
            self.assertEqual(book.ponds(), [(0, room, leak)])

    def test_room_and_leak_out_of_their_bounds(self):
        book = some_started()
        for room in (-1, MOST + 1, MANY_FIGURES, -MANY_FIGURES):
            self.refuse(NoPond, book, book.pond, 0, "anna", room)
            self.refuse(NoPond, book, book.pond, 0, "anna", room, 5)
        for leak in (-1, 1001, MANY_FIGURES, -MANY_FIGURES):
            self.refuse(NoPond, book, book.pond, 0, "anna", 5, leak)

    def test_a_licence_that_gives_back(self):
        book = some_started()
        self.refuse(NoPond, book, book.pond, 2, "carl", 5)
        book.drop(2, "carl")
        self.refuse(NoPond, book, book.pond, 2, "carl", 5)

    def test_a_licence_that_has_a_pond(self):
        book = with_pond()
        self.refuse(NoPond, book, book.pond, 0, "anna", 5)
        self.assertEqual(book.pond(1, "bert", 5), 1)

    def test_a_dropped_licence(self):
        book = some_started()
        book.drop(0, "anna")
        self.assertEqual(book.pond(0, "anna", 5), 0)

    def test_an_eleventh_pond(self):
        book = Book(FORKED)
        for number in range(11):
            book.file("anna", 0, 5)
        for number in range(10):
            self.assertEqual(book.pond(number, "anna", 5), number)
        self.refuse(NoPond, book, book.pond, 10, "anna", 5)
        self.assertEqual(len(book.ponds()), 10)

    def test_the_order_of_the_refusals(self):
        book = with_pond()
        for number in NO_NUMBERS:
            self.refuse(NoNumber, book, book.pond, number, "anna", 5)
            self.refuse(NoNumber, book, book.pond, number, "Anna", -1, -1)
        for holder in ("bert", "", "Anna"):
            self.refuse(NotYours, book, book.pond, 0, holder, 5)
            self.refuse(NotYours, book, book.pond, 2, holder, -1, 1001)

    def test_a_pond_stays_whoever_holds_it(self):
        book = with_pond()
        book.run([9] * 8, [9, 0, 0])
        book.sell(0, "anna", "dora")
        self.assertEqual((book.ponds(), book.kept()), ([(0, 15, 100)], [9]))
        self.refuse(NoPond, book, book.pond, 0, "dora", 5)
        self.refuse(NotYours, book, book.pond, 0, "anna", 5)
        book.sell(1, "bert", "dora")
        self.assertEqual(book.pond(1, "dora", 5), 1)
        book.drop(0, "dora")
        self.assertEqual((book.ponds(), book.kept()), ([(0, 15, 100), (1, 5, 0)], [9, 0]))

    def test_a_turn_leaves_the_ponds(self):
        book = with_pond()
        book.run([9] * 8, [9, 0, 0])
        before = (book.ponds(), book.kept(), book.record())
        book.turn()
        book.turn()
        self.assertEqual((book.ponds(), book.kept(), book.record()), before)
        self.assertEqual(book.today(), 4)


class Run(Case):
    def test_a_day_is_told_and_kept_and_turns(self):
        book = with_pond()
        before = told_by(book)
        springs, calls = [4, 0, 3, 0, 0, 0, 0, 6], [9, 5, 9]
        told = book.run(springs, calls)
        self.assertEqual(told, ([5, 4, 4], [5], [0, 0, 0, 0, 0, 4, 0, 1], (13, 0, 4, 5, 0, 4)))
        self.assertEqual([type(part) for part in told], [list, list, list, tuple])
        self.assertEqual(book.kept(), [5])
        self.assertEqual(book.record(), [(springs, calls)])
        self.assertEqual(told_by(book), (before[0] + 1, before[1], before[2], before[3] + [("turn",)]))

    def test_lets_and_the_lessened_call(self):
        book = with_pond()
        book.run([0] * 7 + [12], [12, 0, 0])
        self.assertEqual(book.kept(), [9])
        told = book.run([0] * 7 + [12], [12, 0, 0], [(0, 2, 1), (0, -1, 2)])
        # Behind the lets six are kept, so that there is room for nine.
        self.assertEqual(told, ([9, 0, 0], [14], [0, 0, 5, 0, 0, 5, 0, 6], (12, 9, 1, 14, 1, 5)))
        self.assertEqual(book.record()[1], ([0] * 7 + [12], [9, 0, 0]))

    def test_lets_by_name_and_left_out(self):
        book, other = with_pond(), with_pond()
        self.assertEqual(book.run(springs=[9] * 8, calls=[9] * 3), other.run([9] * 8, [9] * 3, lets=[]))
        self.assertEqual(all_told_by(book), all_told_by(other))

    def test_lets_left_out_are_like_none_told(self):
        left_out, told = with_pond(), with_pond()
        for springs, calls in (([3] * 8, [9, 5, 9]), (DRY, [0] * 3), ([MOST] * 8, [MOST] * 3), ([1] * 8, [9, 9, 0])):
            day = left_out.run(springs, calls)
            self.assertEqual(day, told.run(springs, calls, []))
            self.assertEqual(day[1], left_out.kept())
            self.assertEqual(left_out.kept(), told.kept())
            self.assertEqual(left_out.record(), told.record())
            self.assertEqual(left_out.deeds(), told.deeds())
            self.assertEqual(all_told_by(left_out), all_told_by(told))
        self.assertEqual(left_out.close(), told.close())
        self.assertEqual(all_told_by(left_out), all_told_by(told))

    def test_lets_left_out_behind_a_run_that_had_some(self):
        book = with_pond()
        book.run([9] * 8, [9, 0, 0])
        book.run(DRY, [0, 0, 0], [(0, -1, 2)])
        kept = book.kept()
        self.assertEqual(book.run(DRY, [0, 0, 0]), slow_day(FORKED, DRY, book.roll(), book.ponds(), kept, [0] * 3, []))

    def test_lets_left_out_are_refused_like_none_told(self):
        book = with_pond()
        for springs, calls in (([1] * 7, [1] * 3), ([1] * 8, [1] * 4), ([-1] + [1] * 7, [1] * 3), ([1] * 8, [1, 1, -1])):
            self.refuse(NoDay, book, book.run, springs, calls)
            self.refuse(NoDay, book, book.run, springs, calls, [])

    def test_no_licences(self):
        book = Book([-1])
        self.assertEqual(book.run([7], []), ([], [], [7], (7, 0, 0, 0, 0, 7)))
        self.assertEqual(book.record(), [([7], [])])

    def test_springs_and_calls_that_are_too_few_or_too_many(self):
        book = with_pond()
        for springs in ([], [1] * 7, [1] * 9):
            self.refuse(NoDay, book, book.run, springs, [1, 1, 1])
        for calls in ([], [1] * 2, [1] * 4):
            self.refuse(NoDay, book, book.run, [1] * 8, calls)

    def test_springs_and_calls_out_of_bounds(self):
        book = with_pond()
        for amount in (-1, MOST + 1, MANY_FIGURES, -MANY_FIGURES):
            for place in range(8):
                self.refuse(NoDay, book, book.run, [1] * place + [amount] + [1] * (7 - place), [1, 1, 1])
            for place in range(3):
                self.refuse(NoDay, book, book.run, [1] * 8, [1] * place + [amount] + [1] * (2 - place))
        book.run([MOST] * 8, [MOST] * 3)
        book.run([0] * 8, [0] * 3)

    def test_lets_that_are_refused(self):
        book = with_pond()
        book.run([9] * 8, [9, 0, 0])
        good = (0, 2, 4)
        for refusal, let in ((NoPond, (1, -1, 0)), (NoPond, (-1, 0, 99)), (NoReach, (0, 0, 99)), (NoReach, (0, -2, 1)),
                             (TooMuch, (0, -1, 10)), (TooMuch, (0, -1, -1))):
            self.refuse(refusal, book, book.run, [9] * 8, [9, 0, 0], [let])
            if refusal != TooMuch or let[2] < 0:
                self.refuse(refusal, book, book.run, [9] * 8, [9, 0, 0], [good, let, (5, 5, 5)])
        self.refuse(TooMuch, book, book.run, [9] * 8, [9, 0, 0], [good, good, (0, -1, 2)])

    def test_no_day_goes_ahead_of_bad_lets(self):
        book = with_pond()
        self.refuse(NoDay, book, book.run, [9] * 7, [9, 0, 0], [(5, 5, 5)])
        self.refuse(NoDay, book, book.run, [9] * 8, [9, 0, -1], [(5, 5, 5)])

    def test_several_days_on_end(self):
        book = with_pond()
        for day in range(5):
            kept = book.kept()
            springs, calls = [day] * 8, [9, day, 9]
            lets = [(0, -1, kept[0] // 2)]
            told = slow_day(FORKED, springs, book.roll(), book.ponds(), kept, calls, lets)
            self.assertEqual(book.run(springs, calls, lets), told)
            self.assertEqual(book.kept(), told[1])
        self.assertEqual(book.today(), 6)
        self.assertEqual([springs for springs, calls in book.record()], [[day] * 8 for day in range(5)])

    def test_it_is_dealt_by_the_roll_as_it_stands(self):
        book = Book([-1])
        book.file("anna", 0, 9)
        self.assertEqual(book.run([9], [9])[0], [9])
        book.file("bert", 0, 9)
        self.assertEqual(book.run([12], [9, 9])[0], [9, 3])
        book.drop(0, "anna")
        self.assertEqual(book.run([12], [9, 9])[0], [0, 9])


class Why(Case):
    def test_ahead_of_the_first_run(self):
        book = some_started()
        for number in [0, 1, 2] + NO_NUMBERS:
            self.refuse(NoDay, book, book.why, number)
        book.turn()
        self.refuse(NoDay, book, book.why, 0)

    def test_behind_a_refused_run(self):
        book = some_started()
        self.refuse(NoDay, book, book.run, [1] * 7, [1] * 3)
        self.refuse(NoDay, book, book.why, 0)
        book.run([2] * 8, [9, 9, 9])
        told = [book.why(number) for number in range(3)]
        self.refuse(NoPond, book, book.run, [5] * 8, [9, 9, 9], [(0, 0, 0)])
        self.assertEqual([book.why(number) for number in range(3)], told)

    def test_papers_of_the_last_day(self):
        book = some_started()
        book.run([2] * 8, [2, 9, 2])
        self.assertEqual([book.why(number) for number in range(3)], [None, (2, [(0, 2), (1, 2)]), None])
        book.run([0] * 8, [1, 0, 1])
        self.assertEqual([book.why(number) for number in range(3)], [(7, []), None, (0, [])])

    def test_no_such_number(self):
        book = some_started()
        book.run([2] * 8, [9, 9, 9])
        for number in NO_NUMBERS:
            self.refuse(NoNumber, book, book.why, number)

    def test_a_number_that_came_later(self):
        book = some_started()
        book.run([2] * 8, [9, 9, 9])
        self.assertEqual(book.file("dora", 0, 5), 3)
        self.refuse(NoNumber, book, book.why, 3)
        book.run([2] * 8, [9, 9, 9, 9])
        self.assertEqual(book.why(3), (0, [(2, 2)]))

    def test_deeds_since_then_change_nothing(self):
        book = some_started()
        book.run([2] * 8, [9, 9, 9])
        told = [book.why(number) for number in range(3)]
        self.assertEqual(told, [(7, [(0, 2)]), (2, [(0, 2), (1, 2)]), (0, [(2, 2)])])
        book.drop(0, "anna")
        book.sell(1, "bert", "dora")
        book.move(0, "anna", 4)
        book.turn()
        book.lapse([0, 1, 2])
        book.pond(1, "dora", 3)
        book.close()
        self.assertEqual([book.why(number) for number in range(3)], told)

    def test_a_pond_by_its_lessened_call(self):
        book = with_pond()
        book.run([0] * 7 + [9], [9, 0, 0])
        book.run([0] * 7 + [9], [9, 0, 0])
        # It called for nine, but there was room for six: with six it has all.
        self.assertEqual(book.record()[1][1], [6, 0, 0])
        self.assertIsNone(book.why(0))
        book.run([0] * 7 + [0], [9, 0, 0], [(0, -1, 1)])
        self.assertEqual(book.why(0), (7, []))


class Move(Case):
    def started(self):
        """The licence 0, the eldest, takes at the lower reach; the licence 1 at the upper one."""
        book = Book(chain(2))
        book.file("anna", 1, 5)
        book.turn()
        book.file("bert", 0, 9)
        return book

    def test_a_move_that_is_let_ahead_of_a_run_and_refused_behind_it(self):
        book = self.started()
        book.move(0, "anna", 0)
        book.move(0, "anna", 1)
        self.assertEqual(book.roll(), [(0, 1, -1, 5), (1, 0, -1, 9)])
        self.assertEqual(book.deeds()[-2:], [("move", 0, "anna", 0), ("move", 0, "anna", 1)])
        book.run([5, 5], [5, 9])
        self.refuse(Harms, book, book.move, 0, "anna", 0)
        book.turn()
        self.refuse(Harms, book, book.move, 0, "anna", 0)

    def test_a_move_that_harms_nobody(self):
        book = self.started()
        book.run([5, 5], [2, 3])
        self.assertIsNone(book.move(0, "anna", 0))
        self.assertEqual(book.roll()[0], (0, 0, -1, 5))

    def test_its_own_start(self):
        book = self.started()
        book.run([5, 5], [5, 9])
        book.move(0, "anna", 1)
        self.assertEqual(book.deeds()[-1], ("move", 0, "anna", 1))

    def test_any_day_that_was_run_counts(self):
        for harmful in range(4):
            book = self.started()
            for day in range(4):
                book.run([5, 5], [5, 9] if day == harmful else [1, 1])
            self.refuse(Harms, book, book.move, 0, "anna", 0)

    def test_by_the_roll_as_it_stands(self):
        book = self.started()
        book.run([5, 5], [5, 9])
        book.lapse([5, 0])
        book.move(0, "anna", 0)
        book = self.started()
        book.run([5, 5], [5, 9])
        book.lapse([0, 9])
        book.move(0, "anna", 0)

    def test_days_ahead_of_a_closing_count(self):
        book = self.started()
        book.run([5, 5], [5, 9])
        book.close()
        self.refuse(Harms, book, book.move, 0, "anna", 0)

    def test_a_licence_that_came_behind_the_run_called_for_nothing(self):
        book = self.started()
        book.run([5, 5], [0, 5])
        book.file("carl", 1, 9)
        book.move(2, "carl", 0)
        book.run([5, 5], [0, 5, 9])
        book.move(2, "carl", 1)
        self.assertEqual(book.roll()[2], (2, 1, -1, 9))

    def test_a_refused_run_does_not_count(self):
        book = self.started()
        self.refuse(NoDay, book, book.run, [5, 5], [5, 9, 9])
        self.refuse(NoPond, book, book.run, [5, 5], [5, 9], [(0, 0, 0)])
        book.move(0, "anna", 0)

    def test_a_licence_with_a_pond(self):
        book = self.started()
        book.pond(0, "anna", 5)
        self.refuse(Fixed, book, book.move, 0, "anna", 0)
        self.refuse(Fixed, book, book.move, 0, "anna", 1)
        book.run([5, 5], [5, 9])
        self.refuse(Fixed, book, book.move, 0, "anna", 0)
        book.move(1, "bert", 1)

    def test_the_calls_as_they_were_dealt_by(self):
        roomy, narrow = self.started(), self.started()
        for book, room in ((roomy, 100), (narrow, 1)):
            book.file("carl", 0, 9)
            book.pond(2, "carl", room)
            book.run([5, 5], [3, 0, 5])
        # With room for all that it called for the pond had five at reach 0, else one.
        self.refuse(Harms, roomy, roomy.move, 0, "anna", 0)
        narrow.move(0, "anna", 0)

    def test_all_other_refusals_go_ahead(self):
        book = self.started()
        book.file("carl", 0, 9, 1)
        book.pond(0, "anna", 5)
        book.run([5, 5], [5, 9, 9])
        for number in (-1, 3, MANY_FIGURES):
            self.refuse(NoNumber, book, book.move, number, "anna", 0)
        self.refuse(NotYours, book, book.move, 0, "bert", 0)
        self.refuse(NotYours, book, book.move, 0, "bert", 9)
        self.refuse(NoLicence, book, book.move, 0, "anna", 2)
        self.refuse(NoLicence, book, book.move, 0, "anna", -1)
        self.refuse(NoLicence, book, book.move, 2, "carl", 1)
        self.refuse(Fixed, book, book.move, 0, "anna", 0)

    def test_a_move_leaves_all_run_days_as_they_were(self):
        book = self.started()
        book.run([5, 5], [2, 3])
        record, why = book.record(), [book.why(0), book.why(1)]
        book.move(0, "anna", 0)
        self.assertEqual((book.record(), [book.why(0), book.why(1)]), (record, why))


class Close(Case):
    def test_no_run_since(self):
        book = some_started()
        self.assertEqual(book.close(), [])
        self.assertEqual(book.roll(), some_started().roll())
        self.assertEqual(book.deeds()[-1], ("lapse", (10, 20, 30)))
        self.assertEqual(book.today(), 1)

    def test_no_licences(self):
        book = Book([-1])
        book.run([1], [])
        self.assertEqual(book.close(), [])
        self.assertEqual(book.deeds(), [("turn",), ("lapse", ())])

    def test_the_greatest_call_of_several_days(self):
        book = some_started()
        for calls in ([3, 1, 7], [8, 2, 0], [5, 0, 6]):
            book.run(DRY, calls)
        self.assertEqual(book.close(), [(0, 10, 8), (1, 20, 2), (2, 30, 7)])
        self.assertEqual([one[3] for one in book.roll()], [8, 2, 7])
        self.assertEqual(book.deeds()[-1], ("lapse", (8, 2, 7)))

    def test_greatest_calls_above_and_at_the_most_and_nought(self):
        book = some_started()
        book.run([9] * 8, [99, 20, 0])
        self.assertEqual(book.close(), [(2, 30, 0)])
        self.assertEqual(book.deeds()[-1], ("lapse", (99, 20, 0)))
        self.assertEqual([one[3] for one in book.roll()], [10, 20, 0])

    def test_the_greatest_call_of_all(self):
        book = some_started()
        book.run(DRY, [MOST, 0, MOST])
        self.assertEqual(book.close(), [(1, 20, 0)])
        self.assertEqual(book.deeds()[-1], ("lapse", (MOST, 0, MOST)))

    def test_a_licence_that_came_behind_the_last_run(self):
        book = some_started()
        book.run(DRY, [5, 5, 5])
        book.file("dora", 0, 40)
        self.assertEqual(book.close(), [(0, 10, 5), (1, 20, 5), (2, 30, 5)])
        self.assertEqual(book.deeds()[-1], ("lapse", (5, 5, 5, 40)))

    def test_licences_that_came_between_the_runs(self):
        book = some_started()
        book.run(DRY, [9, 3, 4])
        book.file("dora", 0, 40)
        book.run(DRY, [2, 6, 4, 7])
        book.file("emil", 0, 50)
        self.assertEqual(book.close(), [(0, 10, 9), (1, 20, 6), (2, 30, 4), (3, 40, 7)])
        self.assertEqual(book.deeds()[-1], ("lapse", (9, 6, 4, 7, 50)))

    def test_a_part_that_came_behind_the_last_run_keeps_its_own_most(self):
        book = Book([-1])
        book.file("anna", 0, 10)
        book.run([0], [4])
        book.part(0, "anna", 3, "bert")
        self.assertEqual(book.close(), [(0, 7, 4)])
        self.assertEqual(book.deeds()[-1], ("lapse", (4, 3)))

    def test_a_pond_by_its_call_as_it_was_told(self):
        book = some_started()
        book.pond(0, "anna", 3)
        book.run([9] * 8, [8, 1, 1])
        self.assertEqual(book.record()[0][1], [3, 1, 1])
        self.assertEqual(book.close(), [(0, 10, 8), (1, 20, 1), (2, 30, 1)])

    def test_a_run_that_was_refused_does_not_count(self):
        book = some_started()
        book.run(DRY, [1, 2, 3])
        self.refuse(NoDay, book, book.run, [0] * 7, [9, 9, 9])
        self.refuse(NoPond, book, book.run, DRY, [9, 9, 9], [(0, 0, 0)])
        self.assertEqual(book.close(), [(0, 10, 1), (1, 20, 2), (2, 30, 3)])

    def test_two_closings_on_end(self):
        book = some_started()
        book.run(DRY, [1, 99, 3])
        book.close()
        self.assertEqual(book.close(), [])
        self.assertEqual(book.deeds()[-2:], [("lapse", (1, 99, 3)), ("lapse", (1, 20, 3))])

    def test_days_ahead_of_the_last_closing_do_not_count(self):
        book = some_started()
        book.run(DRY, [9, 9, 9])
        book.close()
        book.run(DRY, [5, 0, 99])
        self.assertEqual(book.close(), [(0, 9, 5), (1, 9, 0)])
        self.assertEqual(book.deeds()[-1], ("lapse", (5, 0, 99)))

    def test_a_lapse_by_hand_is_no_closing(self):
        book = some_started()
        book.run(DRY, [9, 9, 9])
        book.lapse([10, 15, 5])
        book.turn()
        self.assertEqual(book.close(), [(0, 10, 9), (1, 15, 9)])
        self.assertEqual(book.deeds()[-1], ("lapse", (9, 9, 9)))

    def test_a_refused_lapse_between(self):
        book = some_started()
        book.run(DRY, [1, 2, 3])
        self.refuse(NoNumber, book, book.lapse, [1, 2])
        self.assertEqual(book.close(), [(0, 10, 1), (1, 20, 2), (2, 30, 3)])

    def test_a_closing_leaves_ponds_and_record(self):
        book = with_pond()
        book.run([9] * 8, [9, 9, 9])
        before = (book.ponds(), book.kept(), book.record(), book.today())
        book.close()
        self.assertEqual((book.ponds(), book.kept(), book.record(), book.today()), before)


class ManyBooks(unittest.TestCase):
    """Books driven by deeds, runs and closings that are drawn, each step told once more by the document's words."""

    def run_some_day(self, dice, book, below):
        roll, ponds, kept = book.roll(), book.ponds(), book.kept()
        springs, calls = some_amounts(dice, len(below), 9), some_amounts(dice, len(roll), 12)
        lets = some_lets(dice, below, roll, ponds, kept, dice.randrange(3))
        told = slow_day(below, springs, roll, ponds, kept, calls, lets)
        before = told_by(book)
        self.assertEqual(book.run(springs, calls, lets), told)
        self.assertEqual(told_by(book), (before[0] + 1, before[1], before[2], before[3] + [("turn",)]))
        self.assertEqual(book.kept(), told[1])
        self.assertEqual(book.record()[-1][0], springs)
        dealt_by = book.record()[-1][1]
        self.assertEqual(slow_deal(below, springs, roll, dealt_by), told[0])
        for number in range(len(roll)):
            self.assertEqual(book.why(number), paper_of(below, springs, roll, dealt_by, told[0], number))
        return calls

    def close_it(self, book, below, called):
        """Called are the calls as they were told, day by day since the last closing."""
        before = book.roll()
        numbers = [max([calls[number] for calls in called if number < len(calls)], default=one[3])
                   for number, one in enumerate(before)]
        fallen = [(number, one[3], numbers[number]) for number, one in enumerate(before) if numbers[number] < one[3]]
        self.assertEqual(book.close(), fallen)
        self.assertEqual(book.deeds()[-1], ("lapse", tuple(numbers)))
        since = book.record()[len(book.record()) - len(called):]
        for springs, calls in since:
            longer = calls + [0] * (len(before) - len(calls))
            self.assertEqual(deal(below, springs, before, longer), deal(below, springs, book.roll(), longer))

    def test_many(self):
        dice = seeded(42)
        closed = 0
        for case in range(40):
            below = some_river(dice, dice.randint(2, 8))
            book, called = Book(below), []
            for step in range(60):
                kind = dice.randrange(12)
                if kind == 0:
                    called.append(self.run_some_day(dice, book, below))
                elif kind == 1 and dice.randrange(3) == 0:
                    closed += len(called) > 1
                    self.close_it(book, below, called)
                    called = []
                elif kind == 2 and book.roll():
                    number = dice.randrange(len(book.roll()))
                    try:
                        book.pond(number, book.holders()[number], dice.randint(0, 20), dice.randint(0, 1000))
                    except NoPond:
                        pass
                else:
                    try_some_deed(dice, book, below)
            again = replayed(below, book.deeds())
            self.assertEqual(told_by(again), told_by(book))
            self.assertIs(type(again), Roll)
        self.assertGreater(closed, 10)

    def test_no_move_that_was_let_would_have_harmed(self):
        dice = seeded(43)
        outcomes = {"let": 0, "harms": 0}
        for case in range(60):
            below = some_river(dice, dice.randint(2, 6))
            book = Book(below)
            for number in range(6):
                book.file("a", dice.randrange(len(below)), dice.randint(1, 9))
                if dice.randrange(2):
                    book.turn()
            for day in range(4):
                book.run(some_amounts(dice, len(below), 6), some_amounts(dice, 6, 9))
            for turn in range(6):
                number, start, before = dice.randrange(6), dice.randrange(len(below)), book.roll()
                after = before[:number] + [(before[number][0], start, -1, before[number][3])] + before[number + 1:]
                harm = False
                for springs, calls in book.record():
                    old, new = slow_deal(below, springs, before, calls), slow_deal(below, springs, after, calls)
                    harm = harm or any(new[other] < old[other] for other in range(6) if other != number)
                outcomes["harms" if harm else "let"] += 1
                if harm:
                    with self.assertRaises(Harms):
                        book.move(number, "a", start)
                    self.assertEqual(book.roll(), before)
                else:
                    book.move(number, "a", start)
                    self.assertEqual(book.roll(), after)
        self.assertGreater(min(outcomes.values()), 20)

    def test_great_numbers_within_seconds(self):
        book = Book(chain(40))
        for number in range(60):
            book.file("anna", number * 7 % 40, MOST - number)
        for number in range(10):
            book.pond(number, "anna", MOST, number * 100)
        for day in range(10):
            told = book.run([MOST - day] * 40, [MOST - number * day for number in range(60)], [(0, -1, 0)] * 60)
            self.assertEqual(told[3][0] + told[3][1], sum(told[3][2:]))
        for number in range(10, 60):
            book.why(number)
        book.move(59, "anna", book.roll()[59][1])
        # On the first day each one called for 10 ** 12.
        self.assertEqual(book.close(), [])


class ListsOfOnesOwn(Case):
    def test_lists_that_are_told(self):
        book = with_pond()
        book.run([9] * 8, [9, 9, 9])
        for ask in (book.roll, book.holders, book.deeds, book.ponds, book.kept, book.record):
            check_own(self, ask)

    def test_all_that_is_told_and_spoiled(self):
        book = with_pond()
        told = [book.run([2] * 8, [9, 9, 9])]
        before = copy.deepcopy(all_told_by(book))
        told += [book.record(), book.why(1), book.why(0), book.kept(), book.ponds(), book.roll(), book.deeds()]
        for one in told:
            spoil(one)
        self.assertEqual(all_told_by(book), before)
        spoil(book.close())
        self.assertEqual(book.kept(), before[5])

    def test_what_was_told_stays_as_it_was(self):
        book = with_pond()
        told = [book.run([2] * 8, [9, 9, 9]), book.record(), book.why(1), book.kept(), book.ponds()]
        as_told = copy.deepcopy(told)
        book.pond(1, "bert", 5)
        book.run([3] * 8, [9, 9, 9], [(0, -1, 1)])
        book.close()
        self.assertEqual(told, as_told)

    def test_what_was_handed_in_and_is_changed_since(self):
        book = with_pond()
        book.run([0] * 7 + [9], [9, 0, 0])
        springs, calls, lets = [2] * 8, [9, 9, 9], [(0, 2, 1), (0, -1, 2)]
        book.run(springs, calls, lets)
        self.assertEqual((springs, calls, lets), ([2] * 8, [9, 9, 9], [(0, 2, 1), (0, -1, 2)]))
        before = copy.deepcopy(all_told_by(book))
        spoil((springs, calls))
        lets.clear()
        self.assertEqual(all_told_by(book), before)
        springs.clear()
        calls.clear()
        self.assertEqual(all_told_by(book), before)
        self.assertEqual(book.close(), [(0, 10, 9), (1, 20, 9), (2, 30, 9)])


if __name__ == "__main__":
    unittest.main()
