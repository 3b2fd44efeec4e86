import unittest
from itertools import product
from random import Random

from nearfind.cells import price_between
from nearfind.patterns import pattern_of
from tests.slow import all_words

# All words over two letters of at most four, and some over more.
WORDS = all_words("ab", 4) + (
    "c", "abc", "acb", "bca", "cab", "cba", "abca", "house", "mouse", "mosue")

ALIKE = ((1, 1, 1, 0), (1, 1, 1, 1), (2, 2, 3, 0), (2, 2, 9, 1), (9, 9, 1, 9), (1, 1, 0, 0), (1, 1, 0, 1), (0, 0, 1, 0),
         (0, 0, 1, 1), (0, 0, 0, 1), (0, 0, 0, 0))
UNLIKE = ((1, 2, 1, 0), (3, 1, 2, 2), (0, 1, 1, 0), (1, 0, 1, 1), (0, 2, 0, 3))
WITHOUT_TURNING = tuple(prices for prices in ALIKE + UNLIKE if prices[3] == 0) + ((9, 1, 9, 0), (5, 0, 0, 0))


def price(one, other, prices):
    return price_between(pattern_of(one), other, prices)


def all_prices(prices):
    return {(one, other): price(one, other, prices) for one in WORDS for other in WORDS}


class BetweenWords(unittest.TestCase):
    def test_the_same_forth_and_back(self):
        for prices in ALIKE:
            told = all_prices(prices)
            for one, other in told:
                self.assertEqual(told[one, other], told[other, one], (one, other, prices))

    def test_back_is_forth_with_put_and_left_exchanged(self):
        for prices in UNLIKE:
            back = (prices[1], prices[0]) + prices[2:]
            for one, other in product(WORDS, WORDS):
                self.assertEqual(price(one, other, prices), price(other, one, back), (one, other, prices))

    def test_nought_only_between_equal_ones(self):
        for prices in ALIKE + UNLIKE:
            for (one, other), told in all_prices(prices).items():
                self.assertEqual(told == 0, one == other, (one, other, prices))

    def test_never_more_than_by_a_word_between(self):
        for prices in WITHOUT_TURNING:
            told = all_prices(prices)
            for one, between, other in product(WORDS, WORDS, WORDS):
                forth, on = told[one, between], told[between, other]
                if forth is not None and on is not None:
                    straight = told[one, other]
                    self.assertIsNotNone(straight, (one, between, other, prices))
                    self.assertLessEqual(straight, forth + on, (one, between, other, prices))

    def test_words_of_40_letters(self):
        random = Random(3)
        words = ["".join(random.choice("abc") for place in range(40)) for time in range(5)]
        for prices in ((1, 1, 1, 0), (2, 2, 3, 0)):
            for one, between, other in product(words, words, words):
                straight = price(one, other, prices)
                self.assertEqual(straight, price(other, one, prices))
                self.assertEqual(straight == 0, one == other)
                self.assertLessEqual(straight, price(one, between, prices) + price(between, other, prices))


if __name__ == "__main__":
    unittest.main()
