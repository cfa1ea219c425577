import unittest

from samples import MOST, check_refused, seeded, some_amounts, try_some_deed
from sluice.books import Book
from sluice.desk import Desk
from sluice.errors import Fixed, Full, Harms, NoDay, NoLicence, NoNumber, NoPond, NoReach, NoRiver, NoRow
from sluice.errors import NotAlone, NotYours, SluiceError, TooMuch

# The reaches: hill flows into lake, lake and brook into mouth, and sound is a mouth of its own.
RIVER = ["reach mouth", "reach lake mouth", "reach hill lake", "reach brook mouth", "reach sound"]
LICENCES = ["file anna hill 10", "turn", "file bert lake 20", "file carl hill 30 mouth"]
NO_NUMBERS = ["x", "-1", "01", "00", "1.5", "+1", "12345678901234", "1\n", "\t", "one"]
NO_NAMES = ["Anna", "anna1", "ninelette", "an-na", "1", "\t", "anna\n", "~"]
NO_REACHES = ["river", "Mouth", "mout", "mouths", "7", "0", "-", "-1", "~", "mouth\n", "\t", "averylongword"]
# Each row of the interface, good behind the rows above, with what is told of each of its words.
GOOD_BEHIND = [
    ("file dora lake 5", "arn"), ("file dora hill 5 lake", "arnr"), ("sell 0 anna dora", "naa"), ("drop 0 anna", "na"),
    ("move 0 anna lake", "nar"), ("part 0 anna 4 dora", "nana"), ("pond 0 anna 9", "nan"), ("pond 0 anna 9 50", "nann"),
    ("turn", ""), ("rain lake 5", "rn"), ("call 0 5", "nn"), ("let 0 5", "nn"), ("let 0 lake 5", "nrn"), ("run", ""),
    ("sheet", ""), ("flow lake", "r"), ("kept 0", "n"), ("why 0", "n"), ("close", ""), ("roll 0", "n"),
]
GOOD_AHEAD = [("reach pond", "a"), ("reach pond lake", "aw"), ("begin", "")]


def said(*rows):
    """A desk that has been told these rows."""
    desk = Desk()
    for row in rows:
        desk.say(row)
    return desk


def begun():
    return said(*RIVER, "begin", *LICENCES)


def ran():
    """A desk with a pond and a run behind it, so that none of the good rows is refused."""
    return said(*RIVER, "begin", *LICENCES, "file emil sound 9", "pond 3 emil 9", "rain sound 9", "call 3 9", "run")


def answers(desk, *rows):
    return [desk.say(row) for row in rows]


def look_through(desk):
    """All that a desk tells without changing anything."""
    told = []
    questions = ["sheet"] + [f"flow {name}" for name in ("mouth", "lake", "hill", "brook", "sound")]
    for place in range(12):
        questions += [f"kept {place}", f"why {place}", f"roll {place}"]
    for row in questions:
        try:
            told.append(desk.say(row))
        except SluiceError as refusal:
            told.append(type(refusal))
    return told


class Case(unittest.TestCase):
    def refuse(self, refusal, desk, *rows):
        for row in rows:
            with self.subTest(row=row):
                before = look_through(desk)
                check_refused(self, refusal, desk.say, row)
                self.assertEqual(look_through(desk), before)


class AheadOfBegin(Case):
    def test_reaches_and_begin(self):
        desk = Desk()
        self.assertEqual(answers(desk, *RIVER, "begin"), ["ok"] * 6)
        self.assertEqual(answers(desk, "rain hill 1", "rain lake 2", "rain mouth 4", "rain brook 8", "rain sound 16"),
                         ["ok"] * 5)
        self.assertEqual(desk.say("run"), "-")
        rows = ["flow hill", "flow lake", "flow mouth", "flow brook", "flow sound"]
        self.assertEqual(answers(desk, *rows), ["1", "3", "15", "8", "16"])

    def test_names_of_reaches(self):
        desk = said("reach a", "reach zzzzzzzz a", "reach reach a", "reach begin reach", "begin")
        self.assertEqual(desk.say("file run begin 3"), "0")
        self.assertEqual(desk.say("roll 0"), "run 0 begin - 3")

    def test_what_is_no_name(self):
        for name in NO_NAMES:
            self.refuse(NoRow, said("reach a"), f"reach {name}", f"reach {name} a", f"reach {name} b")

    def test_a_reach_told_before(self):
        desk = said(*RIVER)
        self.refuse(NoRiver, desk, "reach lake", "reach lake mouth", "reach lake lake", "reach lake river", "reach lake 7")

    def test_a_reach_below_that_was_not_told(self):
        desk = said(*RIVER)
        for word in NO_REACHES:
            self.refuse(NoReach, desk, f"reach pond {word}")
        self.refuse(NoReach, desk, "reach pond pond")
        self.refuse(NoReach, Desk(), "reach a a", "reach a b")
        self.assertEqual(desk.say("reach pond lake"), "ok")

    def test_a_forty_first_reach(self):
        names = [f"{one}{other}" for one in "abcdefgh" for other in "abcde"]
        desk = said(*[f"reach {name}" for name in names])
        self.refuse(NoRiver, desk, "reach x", "reach x aa", "reach x y", "reach aa", "reach aa x", "reach x 7")
        self.refuse(NoRow, desk, "reach X", "reach X y")
        self.assertEqual(answers(desk, "begin", "rain he 3", "run", "flow he", "flow aa"), ["ok", "ok", "-", "3", "0"])

    def test_begin_without_reaches(self):
        desk = Desk()
        self.refuse(NoRiver, desk, "begin")
        self.assertEqual(answers(desk, "reach a", "begin"), ["ok", "ok"])

    def test_a_refused_reach_is_not_told(self):
        desk = said("reach a")
        for row in ("reach b c", "reach B", "reach a a"):
            with self.assertRaises(SluiceError):
                desk.say(row)
        self.assertEqual(answers(desk, "reach b a", "begin", "rain b 2", "run", "flow a"), ["ok", "ok", "ok", "-", "2"])

    def test_rows_that_go_behind_begin(self):
        for desk in (Desk(), said(*RIVER)):
            for row, kinds in GOOD_BEHIND:
                self.refuse(NoRow, desk, row)
            self.refuse(NoRow, desk, "rain river 5", "file Anna lake 5", "nothing", "")

    def test_rows_that_are_none(self):
        for row in ("reach", "reach a b c", "begin a", "Begin", "REACH a", "begin\n", "\tbegin"):
            self.refuse(NoRow, said("reach b"), row)


class Rows(Case):
    def test_each_row_is_good(self):
        for row, kinds in GOOD_BEHIND:
            with self.subTest(row=row):
                self.assertIs(type(ran().say(row)), str)
        for row, kinds in GOOD_AHEAD:
            self.assertEqual(said(*RIVER).say(row), "ok")

    def test_a_word_too_few_and_one_too_many(self):
        shapes = [(row.split()[0], kinds) for row, kinds in GOOD_BEHIND]
        desk = ran()
        for row, kinds in GOOD_BEHIND:
            words = row.split()
            for other in (words[:-1], words + ["0"], words + ["dora"], words + ["lake"], words + ["0", "0"]):
                if other and (other[0], len(other) - 1) not in [(first, len(kinds)) for first, kinds in shapes]:
                    self.refuse(NoRow, desk, " ".join(other))
        for row, kinds in GOOD_AHEAD[1:]:
            self.refuse(NoRow, said(*RIVER), row + " lake")
        self.refuse(NoRow, said(*RIVER), "reach")

    def test_words_that_are_no_numbers_or_names(self):
        desk = ran()
        for row, kinds in GOOD_BEHIND:
            words = row.split()
            for place, kind in enumerate(kinds, start=1):
                for bad in {"n": NO_NUMBERS, "a": NO_NAMES, "r": []}[kind]:
                    self.refuse(NoRow, desk, " ".join(words[:place] + [bad] + words[place + 1:]))

    def test_reaches_that_were_not_told(self):
        desk = ran()
        for row, kinds in GOOD_BEHIND:
            words = row.split()
            for place, kind in enumerate(kinds, start=1):
                for bad in NO_REACHES if kind == "r" else []:
                    self.refuse(NoReach, desk, " ".join(words[:place] + [bad] + words[place + 1:]))

    def test_a_word_that_is_none_goes_ahead_of_a_reach_to_its_left(self):
        desk = ran()
        self.refuse(NoRow, desk, "file dora river x", "file dora river 5x river", "rain river 01", "let 0 river x")
        self.refuse(NoRow, desk, "file Dora river 5", "move 0 Anna river", "move x anna river", "let x river 5")
        self.refuse(NoReach, desk, "file dora river 5 river", "file dora lake 5 river", "file dora river 5 lake")

    def test_blanks(self):
        desk = ran()
        for row in ("", " ", "  ", " run", "run ", "call  0 5", "call 0 5 ", " call 0 5", "call 0  5"):
            self.refuse(NoRow, desk, row)
            self.refuse(NoRow, Desk(), row)

    def test_rows_that_are_none(self):
        self.refuse(NoRow, ran(), "Run", "runs", "run\n", "run\t", "\nrun", "help", "0", "lapse", "lapse 1 2 3 4", "day", "-")

    def test_reach_and_begin_go_no_more(self):
        self.refuse(NoRow, ran(), "begin", "reach pond", "reach pond lake", "reach lake", "reach pond river", "reach X")

    def test_a_refused_row_changes_nothing_that_is_run_later(self):
        good, other = begun(), begun()
        for row in ("rain river 5", "rain lake 1000000000001", "call 0 x", "call 9 5", "call 0 1000000000001", "let x 5"):
            with self.assertRaises(SluiceError):
                other.say(row)
        rows = ("run", "sheet", "flow lake", "why 0", "close", "roll 0")
        self.assertEqual(answers(good, *rows), answers(other, *rows))


class Deeds(Case):
    def test_file(self):
        desk = said(*RIVER, "begin")
        self.assertEqual(answers(desk, *LICENCES), ["0", "ok", "1", "2"])
        self.assertEqual(answers(desk, "roll 0", "roll 1", "roll 2"), [
            "anna 0 hill - 10", "bert 1 lake - 20", "carl 1 hill mouth 30"])
        self.assertEqual(answers(desk, "file zoe mouth 1000000000000", "roll 3"), ["3", "zoe 1 mouth - 1000000000000"])

    def test_file_refused(self):
        desk = begun()
        self.refuse(NoLicence, desk, "file anna hill 0", "file anna hill 1000000000001", "file anna hill 9999999999999")
        self.refuse(NoLicence, desk, "file anna hill 5 hill", "file anna hill 5 brook", "file anna mouth 5 hill")
        for number in range(3, 60):
            self.assertEqual(desk.say("file anna hill 5"), str(number))
        self.refuse(Full, desk, "file anna hill 5", "file anna hill 5 lake")
        self.refuse(NoLicence, desk, "file anna hill 0")

    def test_sell(self):
        desk = begun()
        self.assertEqual(answers(desk, "sell 1 bert dora", "roll 1"), ["ok", "dora 1 lake - 20"])
        self.assertEqual(answers(desk, "sell 1 dora dora", "roll 1"), ["ok", "dora 1 lake - 20"])
        self.refuse(NotYours, desk, "sell 1 bert emil")
        self.refuse(NoNumber, desk, "sell 3 bert emil", "sell 9999999999999 bert emil")

    def test_part(self):
        desk = begun()
        self.assertEqual(answers(desk, "part 0 anna 4 dora", "roll 0", "roll 3"), [
            "3", "anna 0 hill - 6", "dora 0 hill - 4"])
        self.refuse(NotAlone, desk, "part 1 bert 4 dora", "part 0 anna 1 dora")
        self.refuse(TooMuch, desk, "part 1 bert 20 dora", "part 1 bert 0 dora")
        self.refuse(NotYours, desk, "part 1 anna 20 dora")
        self.refuse(NoNumber, desk, "part 4 anna 20 dora")

    def test_drop(self):
        desk = begun()
        self.assertEqual(answers(desk, "drop 2 carl", "roll 2", "drop 2 carl"), ["ok", "carl 1 hill mouth 0", "ok"])
        self.refuse(NotYours, desk, "drop 2 bert")
        self.refuse(NoNumber, desk, "drop 3 bert")

    def test_move(self):
        desk = begun()
        self.assertEqual(answers(desk, "move 0 anna brook", "roll 0", "move 2 carl lake", "roll 2"), [
            "ok", "anna 0 brook - 10", "ok", "carl 1 lake mouth 30"])
        self.refuse(NoLicence, desk, "move 2 carl mouth", "move 2 carl sound")
        self.refuse(NotYours, desk, "move 2 anna mouth")
        self.refuse(NoNumber, desk, "move 3 anna mouth")

    def test_move_fixed_and_harms(self):
        desk = begun()
        answers(desk, "pond 0 anna 9", "rain hill 5", "rain lake 5", "call 1 5", "call 2 5", "run")
        self.refuse(Fixed, desk, "move 0 anna lake", "move 0 anna hill")
        self.refuse(Harms, desk, "move 1 bert hill")
        self.assertEqual(answers(desk, "move 1 bert mouth", "roll 1"), ["ok", "bert 1 mouth - 20"])

    def test_turn(self):
        desk = said(*RIVER, "begin", "turn", "turn", "file anna lake 3")
        self.assertEqual(answers(desk, "roll 0", "turn"), ["anna 2 lake - 3", "ok"])

    def test_roll_without_such_a_number(self):
        self.refuse(NoNumber, begun(), "roll 3", "roll 60", "roll 9999999999999")
        self.refuse(NoNumber, said(*RIVER, "begin"), "roll 0")


class Ponds(Case):
    def test_pond_and_kept(self):
        desk = begun()
        self.assertEqual(answers(desk, "pond 1 bert 9", "pond 0 anna 1000000000000 1000"), ["0", "1"])
        self.assertEqual(answers(desk, "kept 0", "kept 1"), ["0", "0"])
        self.assertEqual(answers(desk, "rain hill 30", "call 0 4", "call 1 20", "run"), ["ok", "ok", "ok", "4 9 0"])
        self.assertEqual(answers(desk, "kept 0", "kept 1"), ["9", "0"])
        self.assertEqual(desk.say("sheet"), "30 0 0 9 4 17")

    def test_a_leak_left_out_and_told(self):
        for leak, lost in (("", 0), (" 0", 0), (" 1", 9)):
            desk = said("reach a", "begin", "file x a 9999", f"pond 0 x 9999{leak}", "rain a 9999", "call 0 9999", "run")
            self.assertEqual(answers(desk, "kept 0", "sheet"), [str(9999 - lost), f"9999 0 0 {9999 - lost} {lost} 0"])

    def test_pond_refused(self):
        desk = begun()
        self.refuse(NoPond, desk, "pond 2 carl 9", "pond 0 anna 1000000000001", "pond 0 anna 9 1001")
        desk.say("pond 0 anna 9")
        self.refuse(NoPond, desk, "pond 0 anna 9")
        self.refuse(NotYours, desk, "pond 0 bert 9")
        self.refuse(NoNumber, desk, "pond 3 bert 9")

    def test_kept_without_such_a_pond(self):
        self.refuse(NoPond, begun(), "kept 0")
        self.refuse(NoPond, ran(), "kept 1", "kept 9999999999999")
        self.assertEqual(ran().say("kept 0"), "9")


class RainsAndCalls(Case):
    def test_the_last_one_told_holds(self):
        desk = begun()
        answers(desk, "rain hill 5", "call 0 9", "rain hill 3", "call 0 2", "call 1 7", "rain lake 4", "rain lake 0")
        self.assertEqual(answers(desk, "run", "sheet"), ["2 1 0", "3 0 3 0 0 0"])

    def test_those_of_which_none_was_told_are_nought(self):
        self.assertEqual(answers(begun(), "run", "sheet"), ["0 0 0", "0 0 0 0 0 0"])
        self.assertEqual(answers(begun(), "rain hill 5", "run", "sheet"), ["ok", "0 0 0", "5 0 0 0 0 5"])

    def test_calls_of_licences_that_came_behind(self):
        desk = begun()
        answers(desk, "rain hill 9", "call 0 2", "file dora hill 5", "call 3 4")
        self.assertEqual(desk.say("run"), "2 0 0 4")
        answers(desk, "rain hill 9", "call 0 2", "file dora hill 5")
        self.assertEqual(desk.say("run"), "2 0 0 0 0")

    def test_the_bounds(self):
        desk = begun()
        self.assertEqual(answers(desk, "rain hill 1000000000000", "call 0 1000000000000"), ["ok", "ok"])
        self.refuse(TooMuch, desk, "rain hill 1000000000001", "rain hill 9999999999999")
        self.refuse(TooMuch, desk, "call 0 1000000000001", "call 0 9999999999999")
        self.refuse(NoNumber, desk, "call 3 5", "call 3 1000000000001", "call 9999999999999 0")
        self.refuse(NoReach, desk, "rain river 1000000000001")
        self.assertEqual(answers(desk, "run", "flow mouth"), ["10 0 0", str(MOST - 10)])

    def test_behind_a_run_there_are_none(self):
        desk = begun()
        answers(desk, "rain hill 9", "call 0 5")
        self.assertEqual(answers(desk, "run", "run", "sheet"), ["5 0 0", "0 0 0", "0 0 0 0 0 0"])
        self.assertEqual(answers(desk, "rain hill 9", "run"), ["ok", "0 0 0"])
        self.assertEqual(answers(desk, "call 0 5", "run"), ["ok", "0 0 0"])

    def test_a_turn_leaves_all_of_them(self):
        desk = ran()
        answers(desk, "rain sound 9", "rain hill 5", "call 0 3", "call 3 9", "let 0 sound 4", "turn", "turn")
        self.assertEqual(desk.say("run"), "3 0 0 4")
        self.assertEqual(desk.say("sheet"), "14 9 7 9 0 7")

    def test_a_deed_leaves_all_of_them(self):
        desk = begun()
        answers(desk, "rain hill 9", "call 0 5", "sell 0 anna dora", "drop 1 bert", "close", "roll 0")
        self.assertEqual(desk.say("run"), "5 0 0")


class Lets(Case):
    def started(self):
        """The pond 0 is at hill and keeps 9, the pond 1 at sound and keeps 4."""
        desk = said(*RIVER, "begin", "file anna hill 9", "file bert sound 9", "pond 0 anna 9", "pond 1 bert 20")
        answers(desk, "rain hill 9", "rain sound 4", "call 0 9", "call 1 9", "run")
        return desk

    def test_lets_to_the_mouth_and_to_reaches(self):
        desk = self.started()
        self.assertEqual(answers(desk, "let 0 2", "let 0 mouth 3", "let 0 hill 1", "let 1 0", "run"), ["ok"] * 4 + ["0 0"])
        self.assertEqual(answers(desk, "kept 0", "kept 1"), ["3", "4"])
        self.assertEqual(answers(desk, "flow hill", "flow lake", "flow mouth", "flow sound"), ["5", "5", "2", "0"])
        self.assertEqual(desk.say("sheet"), "0 13 4 7 0 2")

    def test_they_are_done_in_their_order(self):
        desk = self.started()
        answers(desk, "let 0 9", "let 5 1", "let 0 sound 1")
        self.refuse(NoPond, desk, "run")
        answers(desk, "let 0 9", "let 0 1", "let 5 1")
        self.refuse(TooMuch, desk, "run")
        answers(desk, "let 0 9", "let 0 sound 1", "let 5 1", "let 0 1")
        self.refuse(NoReach, desk, "run")

    def test_they_are_looked_at_in_the_run(self):
        desk = self.started()
        self.assertEqual(answers(desk, "let 9 9", "let 0 9999999999999", "let 0 sound 0"), ["ok", "ok", "ok"])
        self.refuse(NoPond, desk, "run")

    def test_a_let_of_a_pond_that_comes_behind(self):
        desk = begun()
        answers(desk, "let 0 0", "pond 0 anna 9")
        self.assertEqual(desk.say("run"), "0 0 0")

    def test_the_sixty_first(self):
        desk = self.started()
        self.assertEqual(answers(desk, *["let 0 lake 0"] * 60), ["ok"] * 60)
        self.refuse(Full, desk, "let 0 lake 0", "let 9 0")
        self.refuse(NoReach, desk, "let 0 river 0")
        self.refuse(NoRow, desk, "let 0 lake x")
        self.assertEqual(desk.say("run"), "0 0")
        self.assertEqual(answers(desk, *["let 0 0"] * 60), ["ok"] * 60)
        self.refuse(Full, desk, "let 0 0")

    def test_sixty_anew_behind_a_refused_run(self):
        desk = self.started()
        answers(desk, *["let 9 0"] * 60)
        self.refuse(NoPond, desk, "run")
        self.assertEqual(answers(desk, *["let 0 0"] * 60, "run"), ["ok"] * 60 + ["0 0"])

    def test_behind_a_run_there_are_none(self):
        desk = self.started()
        answers(desk, "let 0 4", "run", "run")
        self.assertEqual(desk.say("kept 0"), "5")
        self.assertEqual(desk.say("sheet"), "0 9 0 9 0 0")

    def test_behind_a_refused_run_rains_and_calls_stay_and_no_lets(self):
        desk = self.started()
        answers(desk, "rain sound 6", "rain hill 2", "call 1 5", "call 0 9", "let 0 4", "let 5 0")
        self.refuse(NoPond, desk, "run")
        self.assertEqual(desk.say("run"), "0 5")
        self.assertEqual(answers(desk, "kept 0", "kept 1", "sheet"), ["9", "9", "8 13 0 18 0 3"])

    def test_a_row_that_is_none_leaves_the_lets(self):
        desk = self.started()
        desk.say("let 0 4")
        self.refuse(NoRow, desk, "run 1", " run", "let 0", "run\n")
        answers(desk, "run")
        self.assertEqual(desk.say("kept 0"), "5")


class Telling(Case):
    def test_run(self):
        self.assertEqual(said("reach a", "begin").say("run"), "-")
        self.assertEqual(said("reach a", "begin", "file x a 5", "rain a 3", "call 0 9").say("run"), "3")

    def test_sheet_and_flow_ahead_of_a_run(self):
        desk = begun()
        self.refuse(NoDay, desk, "sheet", "flow lake")
        self.refuse(NoReach, desk, "flow river")
        answers(desk, "let 5 5", "turn")
        self.refuse(NoPond, desk, "run")
        self.refuse(NoDay, desk, "sheet", "flow lake")

    def test_sheet_and_flow_of_the_last_run(self):
        desk = begun()
        answers(desk, "rain hill 9", "call 0 5", "run")
        last = ["9 0 5 0 0 4", "4"]
        self.assertEqual(answers(desk, "sheet", "flow lake"), last)
        answers(desk, "turn", "rain hill 3", "drop 0 anna", "let 5 5")
        self.assertEqual(answers(desk, "sheet", "flow lake"), last)
        self.refuse(NoPond, desk, "run")
        self.assertEqual(answers(desk, "sheet", "flow lake"), last)
        self.assertEqual(answers(desk, "run", "sheet", "flow lake"), ["0 0 0", "3 0 0 0 0 3", "3"])

    def test_why(self):
        desk = begun()
        self.refuse(NoDay, desk, "why 0", "why 9")
        answers(desk, "rain hill 6", "call 0 5", "call 1 9", "call 2 9", "run")
        self.assertEqual(answers(desk, "why 0", "why 1", "why 2"), ["all", "lake: 0 5, 1 1", "lake: 0 5, 1 1"])
        answers(desk, "rain hill 4", "call 0 3", "call 2 9", "run")
        self.assertEqual(answers(desk, "why 0", "why 1", "why 2"), ["all", "all", "hill: 0 3, 2 1"])
        self.refuse(NoNumber, desk, "why 3", "why 9999999999999")

    def test_why_without_rows(self):
        desk = begun()
        answers(desk, "call 0 5", "run")
        self.assertEqual(answers(desk, "why 0", "why 1"), ["hill:", "all"])
        desk = said("reach brook", "begin", "file a brook 5", "call 0 1", "run")
        self.assertEqual(desk.say("why 0"), "brook:")

    def test_close(self):
        desk = begun()
        self.assertEqual(desk.say("close"), "none")
        answers(desk, "call 0 5", "call 1 20", "run")
        self.assertEqual(answers(desk, "close", "roll 0", "roll 1", "roll 2"), [
            "0 10 5, 2 30 0", "anna 0 hill - 5", "bert 1 lake - 20", "carl 1 hill mouth 0"])
        self.assertEqual(desk.say("close"), "none")
        answers(desk, "call 1 20", "run")
        self.assertEqual(desk.say("close"), "0 5 0")

    def test_two_desks_are_apart(self):
        one, other = begun(), begun()
        answers(one, "rain hill 6", "call 0 5", "run", "drop 0 anna")
        self.assertEqual(look_through(other), look_through(begun()))


class AgainstABook(unittest.TestCase):
    """Deeds and days that are drawn, done in a book and said to a desk beside it."""

    # By the desk's numbers: the forked river told from its mouths up.
    below = [-1, -1, 1, 1, 0, 3, 3, 2]
    names = ["ma", "mb", "c", "d", "e", "f", "g", "h"]

    def begin(self):
        desk = Desk()
        for name, lower in zip(self.names, self.below):
            desk.say(f"reach {name}" if lower == -1 else f"reach {name} {self.names[lower]}")
        desk.say("begin")
        return desk

    def row_of(self, deed):
        words = [str(word) for word in deed]
        if deed[0] == "file":
            words = ["file", deed[1], self.names[deed[2]], str(deed[3])]
            words += [] if deed[4] == -1 else [self.names[deed[4]]]
        elif deed[0] == "move":
            words[3] = self.names[deed[3]]
        return " ".join(words)

    def paper_row(self, paper):
        if paper is None:
            return "all"
        rows = ", ".join(f"{number} {take}" for number, take in paper[1])
        return f"{self.names[paper[0]]}: {rows}".rstrip()

    def licence_row(self, holder, one):
        day, start, back, most = one
        return f"{holder} {day} {self.names[start]} {'-' if back == -1 else self.names[back]} {most}"

    def run_both(self, dice, book, desk):
        springs, calls = some_amounts(dice, 8, 30), some_amounts(dice, len(book.roll()), 30)
        for name, amount in zip(self.names, springs):
            desk.say(f"rain {name} {amount}")
        for number, amount in enumerate(calls):
            desk.say(f"call {number} {amount}")
        takes, kept, flows, sheet = book.run(springs, calls)
        self.assertEqual(desk.say("run"), " ".join(str(take) for take in takes) or "-")
        self.assertEqual(desk.say("sheet"), " ".join(str(drops) for drops in sheet))
        for name, flow in zip(self.names, flows):
            self.assertEqual(desk.say(f"flow {name}"), str(flow))
        for number in range(len(book.roll())):
            self.assertEqual(desk.say(f"why {number}"), self.paper_row(book.why(number)))

    def test_the_same_days(self):
        dice = seeded(44)
        for case in range(20):
            desk, book = self.begin(), Book(self.below)
            for turn in range(40):
                try_some_deed(dice, book, self.below, lapses=0)
            for deed in book.deeds():
                desk.say(self.row_of(deed))
            for day in range(5):
                self.run_both(dice, book, desk)
            fallen = book.close()
            self.assertEqual(desk.say("close"), ", ".join(f"{one} {old} {new}" for one, old, new in fallen) or "none")
            for number, one in enumerate(book.roll()):
                self.assertEqual(desk.say(f"roll {number}"), self.licence_row(book.holders()[number], one))


if __name__ == "__main__":
    unittest.main()
