import unittest

from samples import MANY_FIGURES, check_apart, check_own, check_refused
from sluice.errors import NoRow
from sluice.texts import read_name, read_number, read_words, show_row


def figures(number):
    """A number of many figures, written one by one."""
    written = []
    while number:
        number, last = divmod(number, 10)
        written.append(chr(ord("0") + last))
    return "".join(reversed(written)) or "0"


class Words(unittest.TestCase):
    def test_words_parted_by_single_blanks(self):
        self.assertEqual(read_words("run"), ["run"])
        self.assertEqual(read_words("call 0 12"), ["call", "0", "12"])
        self.assertEqual(read_words("~ ! a-b Z"), ["~", "!", "a-b", "Z"])
        self.assertEqual(read_words(" ".join(["w"] * 500)), ["w"] * 500)

    def test_tabs_and_line_ends_are_signs_of_words(self):
        self.assertEqual(read_words("call\t0 1\n"), ["call\t0", "1\n"])
        self.assertEqual(read_words("\t"), ["\t"])
        self.assertEqual(read_words("\n"), ["\n"])
        self.assertEqual(read_words("a \t b"), ["a", "\t", "b"])
        self.assertEqual(read_words("a\r\nb"), ["a\r\nb"])

    def test_no_rows(self):
        for row in ("", " ", "  ", " run", "run ", "call  0 1", "call 0  1", "call 0 1 ", "   ", "a   b", " \t", "\n "):
            check_refused(self, NoRow, read_words, row)

    def test_lists_of_ones_own(self):
        check_own(self, read_words, "call 0 12")


class Numbers(unittest.TestCase):
    def test_numbers(self):
        for word, number in (
            ("0", 0), ("1", 1), ("9", 9), ("10", 10), ("100", 100), ("907", 907), ("1234567890", 1234567890),
            ("1000000000000", 10 ** 12), ("1000000000001", 10 ** 12 + 1), ("9999999999999", 10 ** 13 - 1),
        ):
            self.assertEqual(read_number(word), number)
            self.assertIs(type(read_number(word)), int)

    def test_fourteen_figures(self):
        for word in ("10000000000000", "99999999999999", "00000000000000", "1" * 5000):
            check_refused(self, NoRow, read_number, word)

    def test_a_nought_ahead(self):
        for word in ("00", "01", "000", "007", "0000000000000", "0123456789012"):
            check_refused(self, NoRow, read_number, word)

    def test_other_signs(self):
        for word in (
            "", " ", "-", "-1", "+1", "1-", "1_000", "1,000", "1.0", "1e3", "0x1", "a", "1a", "a1", "1 2", " 1", "1 ",
            "1\n", "\n1", "1\t", "\t", "~", "/", ":", "-0", "one", "1\r",
        ):
            check_refused(self, NoRow, read_number, word)


class Names(unittest.TestCase):
    def test_names(self):
        for word in ("a", "z", "az", "anna", "eightlet", "zzzzzzzz", "abcdefgh"):
            self.assertEqual(read_name(word), word)

    def test_no_names(self):
        for word in (
            "", "ninelette", "abcdefghi", "a" * 1000, "Anna", "annA", "A", "Z", "an na", " anna", "anna ", " ", "anna1",
            "1", "an-na", "_", "`", "{", "@", "[", "~", "an\tna", "anna\n", "\n",
        ):
            check_refused(self, NoRow, read_name, word)


class Rows(unittest.TestCase):
    def test_none(self):
        self.assertEqual(show_row([]), "-")
        self.assertEqual(show_row(()), "-")

    def test_one(self):
        for number in (0, 1, 7, 10, 907, 10 ** 12):
            self.assertEqual(show_row([number]), figures(number))
            self.assertEqual(show_row((number,)), figures(number))

    def test_several(self):
        self.assertEqual(show_row([3, 0, 12]), "3 0 12")
        self.assertEqual(show_row((0, 0)), "0 0")
        self.assertEqual(show_row([1] * 60), " ".join("1" * 60))

    def test_numbers_of_many_figures(self):
        for number in (
            10 ** 63, 10 ** 64 - 1, 10 ** 64, 10 ** 64 + 1, 10 ** 65, 10 ** 127 + 5, 10 ** 128, 7 * 10 ** 128 + 10 ** 64,
            10 ** 4299, 10 ** 4300, MANY_FIGURES, MANY_FIGURES - 1, MANY_FIGURES + 7 * 10 ** 100 + 3, 123456789 ** 700,
        ):
            written = figures(number)
            self.assertEqual(show_row([number]), written)
            self.assertEqual(show_row((0, number, 5)), "0 " + written + " 5")

    def test_what_is_handed_in_stays_as_it_was(self):
        check_apart(self, show_row, [3, 0, 12])
        check_apart(self, show_row, [])


if __name__ == "__main__":
    unittest.main()
