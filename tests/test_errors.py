"""The interface: the error classes and how they stand under one another."""

import unittest

from signalbox.errors import BadYard, BoxError, Held, NotThere, Red

REFUSALS = [BadYard, NotThere, Held, Red]


class TestErrors(unittest.TestCase):
    def test_box_error_is_a_value_error(self):
        self.assertTrue(issubclass(BoxError, ValueError))
        self.assertIsNot(BoxError, ValueError)

    def test_each_refusal_is_a_box_error_of_its_own(self):
        for refusal in REFUSALS:
            with self.subTest(refusal=refusal.__name__):
                self.assertTrue(issubclass(refusal, BoxError))
                self.assertIsNot(refusal, BoxError)

    def test_no_refusal_stands_below_another(self):
        for one in REFUSALS:
            for other in REFUSALS:
                with self.subTest(one=one.__name__, other=other.__name__):
                    self.assertEqual(issubclass(one, other), REFUSALS.index(one) == REFUSALS.index(other))

    def test_each_can_be_raised_and_taken(self):
        for refusal in REFUSALS:
            with self.subTest(refusal=refusal.__name__):
                for taken in (refusal, BoxError, ValueError):
                    with self.assertRaises(taken):
                        raise refusal("some words")


if __name__ == "__main__":
    unittest.main()
