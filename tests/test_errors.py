"""The classes of oddpairs/errors.py."""

import unittest

from oddpairs import errors

UNDER = ("BadNet", "NoPlace", "BadPairs", "BadWay", "TieThere", "NoTie", "OddRing")


class ErrorsTest(unittest.TestCase):
    def test_net_error_stands_under_value_error(self):
        self.assertTrue(issubclass(errors.NetError, ValueError))

    def test_each_stands_under_net_error(self):
        for name in UNDER:
            with self.subTest(name):
                self.assertTrue(issubclass(getattr(errors, name), errors.NetError))

    def test_none_stands_under_another_one(self):
        for name in UNDER:
            for other in UNDER:
                if name != other:
                    with self.subTest(name, other=other):
                        self.assertFalse(issubclass(getattr(errors, name), getattr(errors, other)))

    def test_none_is_net_error_itself(self):
        for name in UNDER:
            with self.subTest(name):
                self.assertIsNot(getattr(errors, name), errors.NetError)

    def test_each_can_be_raised_with_a_text(self):
        for name in ("NetError",) + UNDER:
            with self.subTest(name):
                with self.assertRaises(errors.NetError) as caught:
                    raise getattr(errors, name)("why")
                self.assertEqual(str(caught.exception), "why")


if __name__ == "__main__":
    unittest.main()
