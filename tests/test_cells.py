import unittest
from itertools import product
from random import Random

from nearfind.cells import cells_of, price_between
from nearfind.patterns import pattern_of, read_pattern
from tests.slow import (
    MANY_PRICES, PLAIN, SMALL_PATTERNS, SMALL_TEXTS, TURNING, cells_by_search, slow_free_price, slow_price,
    some_pattern, some_text)


class KnownPrices(unittest.TestCase):
    def price(self, written, text, prices, wanted):
        with self.subTest(pattern=written, text=text, prices=prices):
            self.assertEqual(price_between(read_pattern(written), text, prices), wanted)

    def test_plain_prices(self):
        for written, text, wanted in (
                ("kitten", "sitting", 3), ("abc", "abc", 0), ("abc", "abd", 1), ("abc", "ab", 1), ("abc", "abxc", 1),
                ("ab", "ba", 2), ("a[bc].", "acz", 0), ("a[bc].", "adz", 1), ("...", "abc", 0), ("..", "abc", 1),
                ("[ab][ab]", "cc", 2)):
            self.price(written, text, PLAIN, wanted)

    def test_each_step_costs_its_own_price(self):
        prices = (2, 3, 4, 5)
        self.price("ab", "axb", prices, 2)
        self.price("ab", "a", prices, 3)
        self.price("ab", "ax", prices, 4)
        self.price("ab", "ba", prices, 5)

    def test_the_cheaper_way_is_taken(self):
        self.price("a", "b", (1, 1, 3, 0), 2)
        self.price("a", "b", (1, 1, 2, 0), 2)
        self.price("a", "b", (9, 9, 1, 0), 1)
        self.price("ab", "ba", (1, 1, 9, 3), 2)
        self.price("ab", "ba", (9, 9, 1, 3), 2)
        self.price("ab", "ba", (9, 9, 2, 3), 3)

    def test_no_classes_and_no_signs(self):
        for prices in MANY_PRICES:
            self.price("", "", prices, 0)
        self.price("", "abc", (2, 3, 4, 5), 6)
        self.price("abc", "", (2, 3, 4, 5), 9)
        self.price("", "abc", (0, 3, 4, 5), None)
        self.price("abc", "", (2, 0, 4, 5), None)

    def test_steps_that_are_not_done(self):
        self.price("ab", "axb", (0, 1, 1, 1), None)
        self.price("axb", "ab", (1, 0, 1, 1), None)
        self.price("a", "b", (1, 1, 0, 1), 2)
        self.price("a", "b", (1, 0, 0, 1), None)
        self.price("a", "b", (0, 1, 0, 1), None)
        self.price("ab", "ba", (0, 0, 0, 1), 1)
        self.price("ab", "ba", (0, 0, 1, 0), 2)
        self.price("ab", "ba", (0, 0, 0, 0), None)
        self.price("a[bc].", "acz", (0, 0, 0, 0), 0)
        self.price("a[bc].", "adz", (0, 0, 0, 0), None)

    def test_turned(self):
        self.price("ab", "ba", TURNING, 1)
        self.price("xabx", "xbax", TURNING, 1)
        self.price("abcd", "badc", TURNING, 2)
        self.price("abc", "bca", TURNING, 2)
        self.price("[ab]c", "cb", TURNING, 1)
        self.price("[ab]c", "cd", TURNING, 2)
        self.price("[ab]c", "dc", TURNING, 1)

    def test_turned_uses_up_neighbours_of_both(self):
        # Were a sign put in between two that are turned, this would cost 2.
        self.price("ca", "abc", TURNING, 3)

    def test_turned_where_nothing_changes(self):
        for written, text in (("aa", "aa"), ("[ab][ab]", "ab"), ("[ab][ab]", "ba"), ("..", "zz"), ("aaa", "aaa")):
            for prices in (TURNING, (0, 0, 0, 1), (9, 9, 9, 9)):
                self.price(written, text, prices, 0)
        self.price("aab", "aba", (0, 0, 0, 1), 1)
        self.price("aaa", "aab", (0, 0, 0, 1), None)


class KnownCells(unittest.TestCase):
    def test_cells(self):
        self.assertEqual(cells_of(("a", "b"), "ba", PLAIN), ((0, 1, 2), (1, 1, 1), (2, 1, 2)))
        self.assertEqual(cells_of(("a", "b"), "ba", TURNING), ((0, 1, 2), (1, 1, 1), (2, 1, 1)))
        self.assertEqual(cells_of(("a", "b"), "ba", (0, 2, 3, 4)), ((0, None, None), (2, 3, None), (4, 2, 4)))
        self.assertEqual(cells_of(("a", "b"), "ba", (2, 0, 3, 4)), ((0, 2, 4), (None, 3, 2), (None, None, 4)))
        self.assertEqual(cells_of(("ab",), "cab", (0, 0, 0, 0)), ((0, None, None, None), (None, None, None, None)))

    def test_cells_with_a_free_begin(self):
        self.assertEqual(cells_of(("a", "b"), "bab", PLAIN, True), ((0, 0, 0, 0), (1, 1, 0, 1), (2, 1, 1, 0)))
        self.assertEqual(
            cells_of(("a", "b"), "bab", (0, 0, 0, 0), True),
            ((0, 0, 0, 0), (None, None, 0, None), (None, None, None, 0)))
        self.assertEqual(
            cells_of(("a", "b"), "xba", (0, 0, 0, 7), True),
            ((0, 0, 0, 0), (None, None, None, 0), (None, None, None, 7)))

    def test_no_classes_and_no_signs(self):
        for free in (False, True):
            for prices in MANY_PRICES:
                self.assertEqual(cells_of((), "", prices, free), ((0,),))
        self.assertEqual(cells_of((), "abc", (2, 1, 1, 1)), ((0, 2, 4, 6),))
        self.assertEqual(cells_of((), "abc", (0, 1, 1, 1)), ((0, None, None, None),))
        self.assertEqual(cells_of((), "abc", (0, 1, 1, 1), True), ((0, 0, 0, 0),))
        self.assertEqual(cells_of((), "abc", (2, 1, 1, 1), True), ((0, 0, 0, 0),))
        for free in (False, True):
            self.assertEqual(cells_of(("a", "b"), "", (1, 2, 1, 1), free), ((0,), (2,), (4,)))
            self.assertEqual(cells_of(("a", "b"), "", (1, 0, 1, 1), free), ((0,), (None,), (None,)))

    def test_free_left_out_is_as_false(self):
        for prices in MANY_PRICES:
            without = cells_of(("a", "bc", "a"), "xabca", prices)
            self.assertEqual(without, cells_of(("a", "bc", "a"), "xabca", prices, False))
            self.assertEqual(without, cells_of(("a", "bc", "a"), "xabca", prices, free=False))
        self.assertEqual(
            cells_of(("a", "bc", "a"), "xabca", PLAIN, free=True), cells_of(("a", "bc", "a"), "xabca", PLAIN, True))

    def test_kinds(self):
        for free in (False, True):
            for prices in MANY_PRICES:
                cells = cells_of(("a", "bc", "a"), "xabca", prices, free)
                self.assertIs(type(cells), tuple)
                self.assertEqual(len(cells), 4)
                for row in cells:
                    self.assertIs(type(row), tuple)
                    self.assertEqual(len(row), 6)
                    self.assertTrue(all(cell is None or type(cell) is int for cell in row))
        self.assertIs(type(price_between((), "", PLAIN)), int)
        self.assertIs(type(price_between(("a",), "b", PLAIN)), int)

    def test_an_equal_question_has_an_equal_answer(self):
        first = cells_of(("a", "bc"), "cab", TURNING, True)
        cells_of(("a", "bc"), "cab", (0, 0, 0, 0), False)
        price_between(("a", "bc"), "cab", PLAIN)
        self.assertEqual(cells_of(tuple(["a", "bc"]), "".join(["ca", "b"]), tuple([1, 1, 1, 1]), True), first)


class AgainstAllRows(unittest.TestCase):
    def test_each_cell_is_the_lowest_of_all_rows(self):
        for pattern, text in product(SMALL_PATTERNS, SMALL_TEXTS):
            for prices in MANY_PRICES:
                wanted = tuple(
                    tuple(slow_price(pattern[:i], text[:j], prices) for j in range(len(text) + 1))
                    for i in range(len(pattern) + 1))
                self.assertEqual(cells_of(pattern, text, prices), wanted, (pattern, text, prices))
                self.assertEqual(price_between(pattern, text, prices), wanted[-1][-1], (pattern, text, prices))

    def test_each_cell_with_a_free_begin_is_the_lowest_of_all_stretches(self):
        for pattern, text in product(SMALL_PATTERNS[::2], SMALL_TEXTS):
            for prices in MANY_PRICES:
                wanted = tuple(
                    tuple(slow_free_price(pattern[:i], text[:j], prices) for j in range(len(text) + 1))
                    for i in range(len(pattern) + 1))
                self.assertEqual(wanted[0], (0,) * (len(text) + 1))
                self.assertEqual(cells_of(pattern, text, prices, True), wanted, (pattern, text, prices))

    def test_somewhat_longer_ones(self):
        random = Random(5)
        for time in range(30):
            pattern = some_pattern(random, "abc", random.randint(4, 5))
            text = some_text(random, "abc", random.randint(4, 6))
            for prices in MANY_PRICES:
                question = (pattern, text, prices)
                self.assertEqual(price_between(*question), slow_price(*question), question)
                self.assertEqual(cells_of(*question, True)[-1][-1], slow_free_price(*question), question)


class Long(unittest.TestCase):
    def test_40_classes_and_300_signs_against_a_search(self):
        random = Random(11)
        for letters, prices in (
                ("ab", PLAIN), ("ab", (2, 3, 4, 1)), ("abcdefghijklmnopqrstuvwxyz", TURNING), ("abc", (0, 1, 1, 1)),
                ("abc", (1, 0, 1, 1)), ("ab", (1, 1, 0, 2)), ("ab", (9, 9, 9, 9)), ("abc", (0, 0, 0, 0))):
            pattern = some_pattern(random, letters, 40)
            text = some_text(random, letters, 300)
            for free in (False, True):
                wanted = cells_by_search(pattern, text, prices, free)
                self.assertEqual(cells_of(pattern, text, prices, free), wanted)
            wanted = cells_by_search(pattern, text, prices)
            self.assertEqual(price_between(pattern, text, prices), wanted[-1][-1])

    def test_the_search_agrees_with_all_rows(self):
        for pattern, text in product(SMALL_PATTERNS[::5], SMALL_TEXTS[::2]):
            for prices in MANY_PRICES:
                question = (pattern, text, prices)
                self.assertEqual(cells_by_search(*question)[-1][-1], slow_price(*question))
                self.assertEqual(cells_by_search(*question, True)[-1][-1], slow_free_price(*question))

    def test_one_letter_all_along(self):
        pattern = ("a",) * 40
        self.assertEqual(price_between(pattern, "a" * 300, PLAIN), 260)
        self.assertEqual(price_between(pattern, "b" * 300, PLAIN), 300)
        self.assertEqual(price_between(pattern, "a" * 300, (9, 9, 9, 9)), 2340)
        self.assertEqual(price_between(pattern, "", PLAIN), 40)
        self.assertEqual(price_between(pattern, "a" * 40, (0, 0, 0, 0)), 0)
        self.assertEqual(price_between(pattern, "a" * 41, (0, 1, 1, 1)), None)
        self.assertEqual(cells_of(pattern, "a" * 300, PLAIN, True)[-1], tuple(max(0, 40 - j) for j in range(301)))

    def test_turned_all_along(self):
        self.assertEqual(price_between(pattern_of("ab" * 20), "ba" * 20, (0, 0, 0, 1)), 20)
        self.assertEqual(price_between(pattern_of("ab" * 20), "ba" * 20, (0, 0, 0, 9)), 180)
        self.assertEqual(price_between(pattern_of("ab" * 20), "ba" * 20, TURNING), 2)

    def test_somewhat_beyond_the_bounds(self):
        self.assertEqual(price_between(pattern_of("ab" * 25), "ab" * 160, PLAIN), 270)
        self.assertEqual(price_between(("a",), "b", (30, 30, 50, 0)), 50)


if __name__ == "__main__":
    unittest.main()
