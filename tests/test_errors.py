import unittest

from wishstrike import errors

NAMES = ("NoWish", "NoStand", "NoName", "NoWorth", "TooMany", "Settled", "Free", "NoText", "NoLine")


class Errors(unittest.TestCase):
    def test_wish_error_is_right_under_value_error(self):
        self.assertEqual(errors.WishError.__bases__, (ValueError,))

    def test_each_is_right_under_wish_error(self):
        for name in NAMES:
            with self.subTest(name):
                self.assertEqual(getattr(errors, name).__bases__, (errors.WishError,))

    def test_none_is_of_another_ones_class(self):
        classes = [getattr(errors, name) for name in NAMES]
        for one in classes:
            for other in classes:
                with self.subTest(one=one, other=other):
                    self.assertEqual(issubclass(one, other), one is other)

    def test_no_wish_keeps_its_number(self):
        for number in (0, 1, 3, 17):
            self.assertEqual(errors.NoWish(number).number, number)

    def test_no_wish_is_taken_as_a_wish_error_with_its_number(self):
        with self.assertRaises(errors.WishError) as taken:
            raise errors.NoWish(2)
        self.assertIs(type(taken.exception), errors.NoWish)
        self.assertEqual(taken.exception.number, 2)

    def test_the_others_are_made_of_a_text(self):
        for name in NAMES[1:]:
            with self.subTest(name):
                made = getattr(errors, name)("some words")
                self.assertEqual(str(made), "some words")
                with self.assertRaises(ValueError):
                    raise made


if __name__ == "__main__":
    unittest.main()
