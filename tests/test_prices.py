import unittest
from itertools import product

from nearfind.patterns import is_prices

NO_NUMBERS = (True, False, None, "1", "", 1.0, 0.0, (), (1,), [], [1], {}, b"1", 1j, object(), int)


class IsPrices(unittest.TestCase):
    def say(self, thing, wanted):
        with self.subTest(thing=thing):
            self.assertIs(is_prices(thing), wanted)

    def at_each_place(self, number):
        for plain in ((1, 1, 1, 0), (0, 0, 0, 0), (9, 9, 9, 9)):
            for place in range(4):
                yield plain[:place] + (number,) + plain[place + 1:]

    def test_tuples_of_four_numbers_from_0_to_9(self):
        for prices in product((0, 1, 5, 9), repeat=4):
            self.say(prices, True)
        for number in range(10):
            for prices in self.at_each_place(number):
                self.say(prices, True)

    def test_a_number_out_of_bounds(self):
        for number in (10, 11, 100, 10 ** 30, -1, -9, -10 ** 30):
            for prices in self.at_each_place(number):
                self.say(prices, False)

    def test_something_else_among_the_numbers(self):
        for thing in NO_NUMBERS:
            for prices in self.at_each_place(thing):
                self.say(prices, False)

    def test_other_lengths(self):
        for number in (0, 1, 2, 3, 5, 6, 8):
            for price in (0, 1, 9):
                self.say((price,) * number, False)

    def test_things_that_are_no_tuple(self):
        for thing in ([1, 1, 1, 0], "1110", b"1110", {1: 1, 2: 1, 3: 1, 4: 0}, {0, 1, 2, 3}, frozenset((0, 1, 2, 3)),
                      range(4), iter((1, 1, 1, 0)), None, True, False, 0, 1110, 1.0, "", [], {}, object(), tuple):
            self.say(thing, False)

    def test_tuples_within(self):
        self.say(((1, 1, 1, 0),), False)
        self.say(((1, 1, 1, 0),) * 4, False)

    def test_what_is_handed_in_is_left_as_it_is(self):
        prices = [1, 1, 1, 0]
        self.say(prices, False)
        self.assertEqual(prices, [1, 1, 1, 0])
        within = ([1], 1, 1, 0)
        self.say(within, False)
        self.assertEqual(within, ([1], 1, 1, 0))

    def test_an_equal_question_has_an_equal_answer(self):
        self.say((1, 1, 1, 0), True)
        self.say((True, 1, 1, 0), False)
        self.say((1.0, 1, 1, 0), False)
        self.say((1, 1, 1, 0), True)
        self.say(tuple([1, 1, 1, 0]), True)


if __name__ == "__main__":
    unittest.main()
