import unittest

from ripestone import errors
from ripestone.errors import StoneError

NAMES = ("NoPlace", "NoChange", "Full", "Twice", "NoWorth", "NoKey", "BadStone", "NoDeed", "NoText", "NoRow")


def refusal(name):
    return getattr(errors, name)


class ErrorsTest(unittest.TestCase):
    def test_stone_error_stands_under_value_error(self):
        self.assertEqual(StoneError.__bases__, (ValueError,))

    def test_each_refusal_stands_under_stone_error(self):
        for name in NAMES:
            with self.subTest(name=name):
                self.assertEqual(refusal(name).__bases__, (StoneError,))
                self.assertEqual(refusal(name).__name__, name)

    def test_no_refusal_stands_under_another_one(self):
        for name in NAMES:
            for other in NAMES:
                if name != other:
                    with self.subTest(name=name, other=other):
                        self.assertFalse(issubclass(refusal(name), refusal(other)))

    def test_each_is_raised_with_words_and_taken_by_its_own_name_alone(self):
        for name in NAMES:
            others = tuple(refusal(other) for other in NAMES if other != name)
            with self.subTest(name=name):
                try:
                    raise refusal(name)("no such thing")
                except others:
                    self.fail("taken as another refusal")
                except StoneError as e:
                    self.assertIsInstance(e, refusal(name))
                    self.assertIsInstance(e, ValueError)
                    self.assertEqual(str(e), "no such thing")

    def test_a_stone_error_by_itself_is_none_of_the_ten(self):
        for name in NAMES:
            self.assertNotIsInstance(StoneError("any"), refusal(name))


if __name__ == "__main__":
    unittest.main()
