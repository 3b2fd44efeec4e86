import unittest

from nearfind.errors import FindError, NoPattern, NoPrices, TooMany

REFUSALS = (NoPattern, NoPrices, TooMany)


class Errors(unittest.TestCase):
    def test_a_find_error_is_a_value_error(self):
        self.assertEqual(FindError.__bases__, (ValueError,))

    def test_each_refusal_stands_under_find_error(self):
        for refusal in REFUSALS:
            self.assertEqual(refusal.__bases__, (FindError,))

    def test_no_refusal_stands_under_another(self):
        for one in REFUSALS:
            for other in REFUSALS:
                self.assertEqual(issubclass(one, other), one is other)

    def test_a_refusal_is_taken_as_itself_and_as_what_it_stands_under(self):
        for refusal in REFUSALS:
            for taken in (refusal, FindError, ValueError):
                with self.assertRaises(taken):
                    raise refusal("some words")


if __name__ == "__main__":
    unittest.main()
