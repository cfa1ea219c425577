import unittest

from sluice import errors

NAMES = [
    "NoRiver", "NoReach", "NoLicence", "NoNumber", "NoHolder", "NotYours", "NotAlone", "TooMuch",
    "Full", "NoPaper", "NoCut", "NoPond", "NoDay", "Fixed", "Harms", "NoRow",
]


class Errors(unittest.TestCase):
    def test_any_refusal_is_a_value_error(self):
        self.assertEqual(errors.SluiceError.__bases__, (ValueError,))

    def test_each_class_stands_under_sluice_error_alone(self):
        for name in NAMES:
            with self.subTest(name):
                self.assertEqual(getattr(errors, name).__bases__, (errors.SluiceError,))
                self.assertEqual(getattr(errors, name).__name__, name)

    def test_none_stands_under_another(self):
        for name in NAMES:
            for other in NAMES:
                with self.subTest(name, other=other):
                    under = issubclass(getattr(errors, name), getattr(errors, other))
                    self.assertEqual(under, name == other)

    def test_there_are_sixteen_and_no_others(self):
        there = [name for name, value in vars(errors).items() if isinstance(value, type)]
        self.assertEqual(len(NAMES), 16)
        self.assertEqual(sorted(there), sorted(NAMES + ["SluiceError"]))

    def test_each_is_raised_with_words_and_taken_by_its_own_name(self):
        for name in NAMES:
            with self.subTest(name):
                with self.assertRaises(getattr(errors, name)) as caught:
                    raise getattr(errors, name)("some words")
                self.assertEqual(str(caught.exception), "some words")


if __name__ == "__main__":
    unittest.main()
