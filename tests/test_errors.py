import unittest

from fewplaces.errors import NoInput, NoValue, PlaceError, TooFew

REFUSALS = (NoValue, NoInput, TooFew)


class Refusals(unittest.TestCase):
    def test_any_refusal_is_a_place_error_and_a_value_error(self):
        self.assertTrue(issubclass(PlaceError, ValueError))
        for refusal in REFUSALS:
            with self.subTest(refusal=refusal.__name__):
                self.assertEqual(refusal.__bases__, (PlaceError,))

    def test_no_refusal_takes_another(self):
        for refusal in REFUSALS:
            for other in REFUSALS:
                if refusal is not other:
                    self.assertFalse(issubclass(refusal, other))


if __name__ == "__main__":
    unittest.main()
