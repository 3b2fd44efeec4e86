import unittest
from itertools import product
from random import Random

from nearfind.cells import price_between
from nearfind.ends import ends_in, ends_of_many, nearest_in, stretch_at
from nearfind.patterns import pattern_of, read_pattern
from nearfind.steps import leads, row_price
from tests.slow import (
    LETTERS, MANY_PRICES, PLAIN, SMALL_PATTERNS, SMALL_TEXTS, TURNING, all_rows, cells_by_search, ends_by_search,
    is_done, is_rows_of_numbers, slow_ends, slow_price, some_pattern, some_text, sum_of)

FEW_PATTERNS = ((), ("a",), ("ab",), ("a", "b"), ("b", "ab")) + SMALL_PATTERNS[::3]
FEW_TEXTS = ("", "a", "b", "ba", "cac") + SMALL_TEXTS[::2]
MOSTS = (0, 1, 2, 3, 4, 5, 8, 9, 10, 18, 27, 200, 400)

TEN_PATTERNS = tuple(read_pattern(written) for written in (
    "ab", "", "ba", "a[bc]a", "...", "abc", "c", "[ab]", "bab", "ccc"))


class KnownEnds(unittest.TestCase):
    def ends(self, written, text, most, prices, wanted):
        with self.subTest(pattern=written, text=text, most=most, prices=prices):
            self.assertEqual(ends_in(read_pattern(written), text, most, prices), wanted)

    def test_plain_prices(self):
        self.ends("abc", "xabcx", 0, PLAIN, ((4, 0),))
        self.ends("abc", "xabcx", 1, PLAIN, ((3, 1), (4, 0), (5, 1)))
        self.ends("abc", "xabcx", 2, PLAIN, ((2, 2), (3, 1), (4, 0), (5, 1)))
        self.ends("abc", "xabcx", 3, PLAIN, ((0, 3), (1, 3), (2, 2), (3, 1), (4, 0), (5, 1)))
        self.ends("abc", "xabcx", 400, PLAIN, ((0, 3), (1, 3), (2, 2), (3, 1), (4, 0), (5, 1)))

    def test_classes(self):
        self.ends("a[bc]", "abacad", 0, PLAIN, ((2, 0), (4, 0)))
        self.ends(".", "abc", 0, PLAIN, ((1, 0), (2, 0), (3, 0)))
        self.ends("..", "abc", 0, PLAIN, ((2, 0), (3, 0)))

    def test_stretches_that_overlap(self):
        self.ends("aba", "ababa", 0, PLAIN, ((3, 0), (5, 0)))
        self.ends("aa", "aaaa", 0, PLAIN, ((2, 0), (3, 0), (4, 0)))

    def test_turned(self):
        self.ends("ab", "xbax", 0, TURNING, ())
        self.ends("ab", "xbax", 1, (9, 9, 9, 1), ((3, 1),))
        self.ends("ab", "xbax", 1, (0, 0, 0, 1), ((3, 1),))
        self.ends("ab", "xbax", 1, (0, 0, 0, 0), ())

    def test_other_prices(self):
        self.ends("ab", "axb", 400, (2, 5, 9, 0), ((0, 10), (1, 5), (2, 7), (3, 2)))
        self.ends("ab", "axb", 400, (0, 5, 9, 0), ((0, 10), (1, 5), (2, 9), (3, 5)))
        self.ends("ab", "axb", 400, (2, 0, 9, 0), ((2, 9), (3, 2)))
        self.ends("ab", "axb", 400, (0, 0, 9, 0), ((2, 9), (3, 9)))
        self.ends("ab", "axb", 400, (0, 0, 0, 0), ())

    def test_the_pattern_of_no_classes_ends_everywhere(self):
        for prices in MANY_PRICES:
            for most in MOSTS:
                self.ends("", "", most, prices, ((0, 0),))
                self.ends("", "abc", most, prices, ((0, 0), (1, 0), (2, 0), (3, 0)))

    def test_the_text_without_signs(self):
        self.ends("abc", "", 8, (1, 3, 1, 1), ())
        self.ends("abc", "", 9, (1, 3, 1, 1), ((0, 9),))
        self.ends("abc", "", 400, (1, 0, 1, 1), ())

    def test_at_most_is_told_as_well_and_one_more_is_not(self):
        pattern = "a" * 40
        self.ends(pattern, "", 359, (9, 9, 9, 9), ())
        self.ends(pattern, "", 360, (9, 9, 9, 9), ((0, 360),))
        self.ends(pattern, "", 361, (9, 9, 9, 9), ((0, 360),))

    def test_somewhat_beyond_the_bounds(self):
        self.ends("abc", "xabcx", -1, PLAIN, ())
        self.ends("", "ab", -1, PLAIN, ())
        self.ends("abc", "xabcx", 500, PLAIN, ((0, 3), (1, 3), (2, 2), (3, 1), (4, 0), (5, 1)))
        pattern = ("a",) * 45
        self.assertEqual(ends_in(pattern, "", 400, (9, 9, 9, 9)), ())
        self.assertEqual(ends_in(pattern, "", 405, (9, 9, 9, 9)), ((0, 405),))
        self.assertEqual(ends_in(pattern, "b" * 270 + "a" * 45, 0, PLAIN), ((315, 0),))
        self.assertEqual(ends_in(("a",), "b", 50, (0, 0, 12, 0)), ((1, 12),))


class EndsAgainstStretches(unittest.TestCase):
    def test_the_lowest_price_of_every_stretch(self):
        for pattern, text in product(FEW_PATTERNS, FEW_TEXTS):
            for prices in MANY_PRICES:
                wanted = slow_ends(pattern, text, 400, prices)
                for most in MOSTS:
                    question = (pattern, text, most, prices)
                    self.assertEqual(ends_in(*question), tuple(pair for pair in wanted if pair[1] <= most), question)

    def test_of_half_the_price_just_those_among_them(self):
        random = Random(31)
        for prices in MANY_PRICES:
            pattern = some_pattern(random, "abc", 15)
            text = some_text(random, "abc", 60)
            for most in (400, 40, 13, 6, 3, 1, 0):
                whole = ends_in(pattern, text, most, prices)
                wanted = tuple((end, price) for end, price in whole if price <= most // 2)
                self.assertEqual(ends_in(pattern, text, most // 2, prices), wanted)

    def test_40_classes_and_300_signs(self):
        random = Random(32)
        for letters, prices in (
                ("ab", PLAIN), ("abc", TURNING), ("ab", (2, 3, 4, 1)), (LETTERS, (9, 9, 9, 9)), ("abc", (0, 1, 1, 1)),
                ("ab", (1, 0, 1, 1)), ("ab", (1, 1, 0, 2)), ("abc", (0, 0, 0, 0)), ("ab", (0, 0, 1, 0))):
            pattern = some_pattern(random, letters, 40)
            text = some_text(random, letters, 300)
            for most in (400, 100, 12, 0):
                self.assertEqual(ends_in(pattern, text, most, prices), ends_by_search(pattern, text, most, prices))

    def test_a_long_word_hidden_in_a_long_text(self):
        word = "abcdefghijklmnopqrstuvwxyzabcdefghijklmn"
        text = "z" * 120 + word + "z" * 140
        self.assertEqual(ends_in(pattern_of(word), text, 0, PLAIN), ((160, 0),))
        self.assertEqual(ends_in(pattern_of(word), text, 1, PLAIN), ((159, 1), (160, 0), (161, 1)))
        self.assertEqual(ends_in(pattern_of(word[:20] + word[21:]), text, 1, PLAIN), ((160, 1),))


class Nearest(unittest.TestCase):
    def nearest(self, written, text, prices, wanted):
        with self.subTest(pattern=written, text=text, prices=prices):
            self.assertEqual(nearest_in(read_pattern(written), text, prices), wanted)

    def test_one_nearest(self):
        self.nearest("abc", "xabcx", PLAIN, (4, 0))
        self.nearest("abc", "xaxcx", PLAIN, (4, 1))
        self.nearest("ab", "xbax", (9, 9, 9, 1), (3, 1))

    def test_of_several_with_the_same_price_the_first(self):
        self.nearest("ab", "abxab", PLAIN, (2, 0))
        self.nearest("ab", "xxabab", PLAIN, (4, 0))
        self.nearest("a", "bbb", PLAIN, (0, 1))
        self.nearest("a", "bbb", (1, 9, 1, 0), (1, 1))
        self.nearest("", "abc", PLAIN, (0, 0))
        self.nearest("ab", "xbxbxb", (0, 0, 4, 0), (2, 4))

    def test_a_later_one_with_a_lower_price(self):
        self.nearest("abc", "axcabc", PLAIN, (6, 0))

    def test_no_price_at_any_end(self):
        self.nearest("a", "", (1, 0, 1, 1), None)
        self.nearest("a", "bbb", (0, 0, 0, 0), None)
        self.nearest("a", "bbb", (1, 0, 0, 1), None)
        self.nearest("abc", "ab", (0, 0, 1, 1), None)
        self.nearest("abc", "ab", (1, 0, 1, 1), None)

    def test_no_classes_and_no_signs(self):
        for prices in MANY_PRICES:
            self.nearest("", "", prices, (0, 0))
            self.nearest("", "xyz", prices, (0, 0))
        self.nearest("abc", "", (1, 4, 1, 1), (0, 12))

    def test_against_every_stretch(self):
        for pattern, text in product(FEW_PATTERNS, FEW_TEXTS):
            for prices in MANY_PRICES:
                told = slow_ends(pattern, text, 10000, prices)
                wanted = min(told, key=lambda pair: (pair[1], pair[0]), default=None)
                self.assertEqual(nearest_in(pattern, text, prices), wanted, (pattern, text, prices))

    def test_prices_above_400_count_as_well(self):
        self.assertEqual(nearest_in(("a",) * 45, "", (9, 9, 9, 9)), (0, 405))

    def test_long_ones(self):
        random = Random(33)
        for prices in (PLAIN, TURNING, (2, 3, 4, 1), (0, 0, 9, 0), (0, 0, 0, 0)):
            pattern = some_pattern(random, "abc", 40)
            text = some_text(random, "abc", 300)
            told = ends_by_search(pattern, text, 10000, prices)
            wanted = min(told, key=lambda pair: (pair[1], pair[0]), default=None)
            self.assertEqual(nearest_in(pattern, text, prices), wanted)


class Stretch(unittest.TestCase):
    def stretch(self, written, text, end, prices, wanted):
        with self.subTest(pattern=written, text=text, end=end, prices=prices):
            self.assertEqual(stretch_at(read_pattern(written), text, end, prices), wanted)

    def test_known_stretches(self):
        self.stretch("abc", "xabcx", 4, PLAIN, (1, ("same", "same", "same")))
        self.stretch("abc", "xaxcx", 4, PLAIN, (1, ("same", "exchanged", "same")))
        self.stretch("abc", "xabxcx", 5, PLAIN, (1, ("same", "same", "put", "same")))
        self.stretch("abc", "xacx", 3, PLAIN, (1, ("same", "left", "same")))
        self.stretch("abc", "xacbx", 4, TURNING, (1, ("same", "turned")))
        self.stretch("abc", "xabcx", 3, PLAIN, (1, ("same", "same", "left")))

    def test_the_shortest_among_those_with_the_lowest_price(self):
        self.stretch("a", "b", 1, PLAIN, (1, ("left",)))
        self.stretch("a", "b", 1, (1, 2, 1, 0), (0, ("exchanged",)))
        self.stretch("ab", "cb", 2, PLAIN, (1, ("left", "same")))
        self.stretch("ab", "ab", 1, PLAIN, (0, ("same", "left")))
        self.stretch("aa", "aaaa", 4, PLAIN, (2, ("same", "same")))
        self.stretch("abc", "xyz", 3, PLAIN, (3, ("left", "left", "left")))

    def test_the_pattern_of_no_classes(self):
        for prices in MANY_PRICES:
            for end in range(4):
                self.stretch("", "abc", end, prices, (end, ()))
            self.stretch("", "", 0, prices, (0, ()))

    def test_the_text_without_signs_and_the_end_0(self):
        for text in ("", "ab"):
            self.stretch("ab", text, 0, PLAIN, (0, ("left", "left")))
            self.stretch("ab", text, 0, (1, 0, 1, 1), None)

    def test_an_end_without_a_price(self):
        self.stretch("ab", "abab", 3, (0, 0, 0, 0), None)
        self.stretch("ab", "abab", 1, (0, 0, 1, 1), None)
        self.stretch("a", "ab", 2, (0, 0, 0, 1), None)
        self.stretch("ab", "abab", 4, (0, 0, 0, 0), (2, ("same", "same")))

    def test_an_end_outside_the_text_has_no_price(self):
        for prices in (PLAIN, TURNING, (0, 0, 0, 0)):
            for end in (-300, -5, -4, -1, 5, 6, 300, 301):
                self.stretch("ab", "abab", end, prices, None)
                self.stretch("", "abab", end, prices, None)
            for end in (-1, 1):
                self.stretch("", "", end, prices, None)

    def check(self, pattern, text, end, prices):
        question = (pattern, text, end, prices)
        told = [(begin, slow_price(pattern, text[begin:end], prices)) for begin in range(end + 1)]
        told = [(begin, price) for begin, price in told if price is not None]
        found = stretch_at(*question)
        if not told:
            self.assertIsNone(found, question)
            return
        price = min(price for begin, price in told)
        begin, row = found
        self.assertEqual(begin, max(other for other, cost in told if cost == price), question)
        self.assertIn(row, all_rows(pattern, text[begin:end]), question)
        self.assertTrue(is_done(row, prices), question)
        self.assertEqual(sum_of(row, prices), price, question)
        self.assertIs(leads(pattern, text[begin:end], prices, row), True, question)
        self.assertEqual(row_price(prices, row), price, question)

    def test_every_end_of_small_texts(self):
        for pattern, text in product(FEW_PATTERNS, FEW_TEXTS):
            for prices in MANY_PRICES:
                for end in range(len(text) + 1):
                    self.check(pattern, text, end, prices)

    def test_somewhat_longer_ones(self):
        random = Random(34)
        for time in range(20):
            pattern = some_pattern(random, "abc", random.randint(4, 5))
            text = some_text(random, "abc", random.randint(4, 6))
            for prices in MANY_PRICES:
                self.check(pattern, text, random.randint(0, len(text)), prices)

    def test_the_same_prices_as_the_ends(self):
        random = Random(35)
        for prices in MANY_PRICES:
            pattern = some_pattern(random, "ab", 8)
            text = some_text(random, "ab", 20)
            told = dict(ends_in(pattern, text, 10000, prices))
            for end in range(len(text) + 1):
                found = stretch_at(pattern, text, end, prices)
                self.assertEqual(None if found is None else row_price(prices, found[1]), told.get(end))

    def test_long_ones(self):
        random = Random(36)
        for prices in (PLAIN, TURNING, (2, 3, 4, 1), (1, 9, 9, 9), (0, 1, 1, 1), (1, 0, 1, 1), (0, 0, 0, 0)):
            pattern = some_pattern(random, "abc", 40)
            text = some_text(random, "abc", 70)
            by_begin = [cells_by_search(pattern, text[begin:], prices)[-1] for begin in range(len(text) + 1)]
            for end in range(0, len(text) + 1, 7):
                told = [(by_begin[begin][end - begin], -begin) for begin in range(end + 1)]
                told = [pair for pair in told if pair[0] is not None]
                found = stretch_at(pattern, text, end, prices)
                if not told:
                    self.assertIsNone(found)
                    continue
                price, begin = min(told)
                self.assertEqual(found[0], -begin)
                self.assertIs(leads(pattern, text[-begin:end], prices, found[1]), True)
                self.assertEqual(row_price(prices, found[1]), price)

    def test_300_signs(self):
        random = Random(37)
        for prices in (PLAIN, TURNING, (1, 0, 1, 1)):
            pattern = some_pattern(random, "abc", 40)
            text = some_text(random, "abc", 300)
            told = dict(ends_by_search(pattern, text, 10000, prices))
            for end in (0, 1, 39, 150, 299, 300):
                found = stretch_at(pattern, text, end, prices)
                if end not in told:
                    self.assertIsNone(found)
                    continue
                begin, row = found
                self.assertIs(leads(pattern, text[begin:end], prices, row), True)
                self.assertEqual(row_price(prices, row), told[end])
                shorter = [price_between(pattern, text[later:end], prices) for later in range(begin + 1, end + 1)]
                self.assertTrue(all(price is None or price > told[end] for price in shorter))


class Many(unittest.TestCase):
    def test_no_pattern(self):
        for prices in MANY_PRICES:
            self.assertEqual(ends_of_many((), "abc", 400, prices), ())
            self.assertEqual(ends_of_many((), "", 400, prices), ())

    def test_known_ends(self):
        patterns = (("a", "b"), ("b",), ())
        self.assertEqual(
            ends_of_many(patterns, "ab", 0, PLAIN), ((0, 2, 0), (1, 2, 0), (2, 0, 0), (2, 1, 0), (2, 2, 0)))
        self.assertEqual(
            ends_of_many(patterns, "ab", 1, PLAIN),
            ((0, 1, 1), (0, 2, 0), (1, 0, 1), (1, 1, 1), (1, 2, 0), (2, 0, 0), (2, 1, 0), (2, 2, 0)))

    def test_the_same_pattern_twice(self):
        self.assertEqual(ends_of_many((("a",), ("a",)), "aba", 0, PLAIN), ((1, 0, 0), (1, 1, 0), (3, 0, 0), (3, 1, 0)))
        for prices in MANY_PRICES:
            told = ends_of_many((("a", "b"), ("b",), ("a", "b")), "xabba", 3, prices)
            first = [(end, price) for end, number, price in told if number == 0]
            last = [(end, price) for end, number, price in told if number == 2]
            self.assertEqual(first, last)

    def check(self, patterns, text, most, prices, ends):
        wanted = sorted(
            (end, number, price) for number, pattern in enumerate(patterns)
            for end, price in ends(pattern, text, most, prices))
        told = ends_of_many(patterns, text, most, prices)
        self.assertEqual(told, tuple(wanted), (patterns, text, most, prices))
        self.assertEqual(list(told), sorted(told))

    def test_ten_patterns(self):
        self.assertEqual(len(TEN_PATTERNS), 10)
        for text, prices in product(FEW_TEXTS, MANY_PRICES):
            for most in (0, 2, 400):
                self.check(TEN_PATTERNS, text, most, prices, slow_ends)

    def test_one_pattern(self):
        for pattern, text in product(FEW_PATTERNS, FEW_TEXTS[::2]):
            for prices in MANY_PRICES:
                self.check((pattern,), text, 2, prices, slow_ends)

    def test_long_ones(self):
        random = Random(38)
        for prices in (PLAIN, (2, 3, 4, 1)):
            patterns = tuple(some_pattern(random, "abc", number) for number in (40, 0, 1, 12, 40, 3, 7, 25, 2, 39))
            self.check(patterns, some_text(random, "abc", 300), 20, prices, ends_by_search)

    def test_somewhat_beyond_the_bounds(self):
        self.check(TEN_PATTERNS + TEN_PATTERNS[:3], "abcab", 2, PLAIN, slow_ends)
        self.assertEqual(ends_of_many(TEN_PATTERNS, "abc", -1, PLAIN), ())


class KindsAndCalls(unittest.TestCase):
    def test_kinds(self):
        for pattern, text, prices in product((("a", "b"), (), ("ab",)), ("", "xabba"), MANY_PRICES):
            self.assertTrue(is_rows_of_numbers(ends_in(pattern, text, 400, prices), 2))
            self.assertTrue(is_rows_of_numbers(ends_of_many((pattern,) * 2, text, 400, prices), 3))
            nearest = nearest_in(pattern, text, prices)
            if nearest is not None:
                self.assertTrue(is_rows_of_numbers((nearest,), 2))
            for end in range(len(text) + 1):
                found = stretch_at(pattern, text, end, prices)
                if found is not None:
                    self.assertIs(type(found), tuple)
                    begin, row = found
                    self.assertIs(type(begin), int)
                    self.assertIs(type(row), tuple)
                    self.assertTrue(all(type(step) is str for step in row))

    def test_an_equal_question_has_an_equal_answer(self):
        random = Random(39)
        questions = [(some_pattern(random, "ab", 9), some_text(random, "ab", 14), prices) for prices in MANY_PRICES]

        def ask(pattern, text, prices):
            return (ends_in(pattern, text, 5, prices), nearest_in(pattern, text, prices),
                    ends_of_many((pattern, pattern[::-1]), text, 5, prices),
                    [stretch_at(pattern, text, end, prices) for end in range(len(text) + 1)])

        first = [ask(*question) for question in questions]
        for (pattern, text, prices), wanted in reversed(list(zip(questions, first))):
            self.assertEqual(ask(tuple(list(pattern)), "".join(list(text)), tuple(list(prices))), wanted)


if __name__ == "__main__":
    unittest.main()
