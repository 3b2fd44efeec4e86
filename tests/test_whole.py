import unittest
from itertools import product
from random import Random

from nearfind.bits import Bits
from nearfind.books import Book
from nearfind.cells import price_between
from nearfind.ends import ends_in, stretch_at
from nearfind.finders import Finder
from nearfind.keeps import ends_in_kept
from nearfind.patterns import pattern_of
from nearfind.rooms import ends_by_rooms, rooms_for
from nearfind.sieves import kept_by_counts, kept_by_parts, kept_by_pieces
from nearfind.steps import leads, row_between, row_price
from tests.slow import (
    LETTERS, MANY_PRICES, PLAIN, SMALL_PATTERNS, all_cuts, all_rows, all_words, cells_by_search, ends_by_search,
    is_done, slow_ends, slow_price, some_pattern, some_pieces, some_text, sum_of, told_by_feeding)

SMALL_WORDS = all_words("ab", 2) + ("aba", "abb", "bbb", "abab", "c", "acb")
SMALL_TEXTS = all_words("ab", 3)[::2] + ("abab", "abcab", "cabac", "bbcaa")
WITHOUT_TURNING = tuple(prices for prices in MANY_PRICES if prices[3] == 0) + ((2, 3, 4, 0), (9, 1, 9, 0), (1, 9, 2, 0))


def told_in_pieces(machine, pieces):
    """All that the feedings tell, put together; a text without signs is fed as one piece."""
    return sum(told_by_feeding(machine, pieces or [""]), ())


class TheSameEnds(unittest.TestCase):
    def check_machines(self, pattern, text, most, prices, wanted, cuts):
        question = (pattern, text, most, prices)
        self.assertEqual(ends_in(*question), wanted, question)
        for pieces in cuts:
            self.assertEqual(told_in_pieces(Finder(pattern, most, prices), pieces), wanted, (question, pieces))
            if prices == PLAIN:
                self.assertEqual(told_in_pieces(Bits(pattern, most), pieces), wanted, (question, pieces))
        if prices[3] == 0:
            self.assertEqual(ends_by_rooms(rooms_for(pattern, most, prices), text), wanted, question)

    def check_kept(self, word, text, most, wanted):
        kept = [kept_by_parts(word, most, text), kept_by_counts(word, most, text)]
        kept += [kept_by_pieces(word, most, text, long) for long in range(1, 7)]
        for stretches in kept:
            self.assertEqual(ends_in_kept(word, most, text, stretches), wanted, (word, text, most, stretches))

    def check_stretches(self, pattern, text, prices, told):
        for end, price in told:
            begin, row = stretch_at(pattern, text, end, prices)
            self.assertIs(leads(pattern, text[begin:end], prices, row), True)
            self.assertEqual(row_price(prices, row), price)
            self.assertEqual(price_between(pattern, text[begin:end], prices), price)

    def test_small_words_and_texts(self):
        for word, text, most in product(SMALL_WORDS, SMALL_TEXTS, (0, 1, 2, 3)):
            pattern = pattern_of(word)
            wanted = slow_ends(pattern, text, most, PLAIN)
            self.check_machines(pattern, text, most, PLAIN, wanted, all_cuts(text))
            self.check_kept(word, text, most, wanted)
            self.check_stretches(pattern, text, PLAIN, wanted)

    def test_small_patterns_at_many_prices(self):
        for pattern, text in product(((), ("ab",)) + SMALL_PATTERNS[::6], SMALL_TEXTS[::2]):
            for most, prices in product((0, 2, 4), MANY_PRICES[::3] + WITHOUT_TURNING[::2]):
                wanted = slow_ends(pattern, text, most, prices)
                cuts = ([text], list(text), [text[:1], "", text[1:]])
                self.check_machines(pattern, text, most, prices, wanted, cuts)
                self.check_stretches(pattern, text, prices, wanted)

    def test_long_words_and_texts(self):
        random = Random(101)
        for number, most in ((0, 0), (1, 1), (3, 1), (5, 2), (8, 2), (12, 1), (26, 1), (40, 0), (4, 40)):
            for letters in ("abc", LETTERS):
                word = some_text(random, letters, number)
                slipped = word[:number // 2] + "q" + word[number // 2 + 1:]
                text = some_text(random, letters, 120) + slipped + some_text(random, letters, 50) + word
                text = text + some_text(random, letters, 300 - len(text))
                wanted = ends_by_search(tuple(word), text, most, PLAIN)
                cuts = ([text], list(text), some_pieces(random, text))
                self.check_machines(pattern_of(word), text, most, PLAIN, wanted, cuts)
                self.check_kept(word, text, most, wanted)
                self.check_stretches(pattern_of(word), text, PLAIN, wanted[::9])

    def test_no_other_stretch_has_a_lower_price_and_no_other_end_is_near_enough(self):
        for word, text, most in product(SMALL_WORDS, SMALL_TEXTS, (0, 1, 2)):
            pattern = pattern_of(word)
            told = dict(ends_in(pattern, text, most, PLAIN))
            for end in range(len(text) + 1):
                prices = [slow_price(pattern, text[begin:end], PLAIN) for begin in range(end + 1)]
                self.assertEqual(told.get(end), min(prices) if min(prices) <= most else None, (word, text, most))


class ThePriceBetween(unittest.TestCase):
    def test_a_row_has_it_and_no_row_a_lower_one(self):
        for pattern, text in product(((), ("a",), ("ab", "c")) + SMALL_PATTERNS[::4], SMALL_TEXTS):
            for prices in MANY_PRICES:
                price = price_between(pattern, text, prices)
                row = row_between(pattern, text, prices)
                costs = [sum_of(other, prices) for other in all_rows(pattern, text) if is_done(other, prices)]
                self.assertEqual(price, min(costs, default=None))
                self.assertEqual(row is None, price is None)
                if row is not None:
                    self.assertIs(leads(pattern, text, prices, row), True)
                    self.assertEqual(row_price(prices, row), price)

    def test_long_ones(self):
        random = Random(102)
        for prices in MANY_PRICES:
            pattern = some_pattern(random, "abc", 40)
            text = some_text(random, "abc", random.choice((40, 40, 60)))
            price = cells_by_search(pattern, text, prices)[-1][-1]
            row = row_between(pattern, text, prices)
            self.assertEqual(price_between(pattern, text, prices), price)
            if price is None:
                self.assertIsNone(row)
            else:
                self.assertIs(leads(pattern, text, prices, row), True)
                self.assertEqual(row_price(prices, row), price)

    def test_forth_and_back(self):
        for one, other in product(SMALL_WORDS, SMALL_TEXTS):
            for prices in ((1, 1, 1, 0), (1, 1, 1, 1), (2, 2, 5, 0), (3, 3, 0, 2), (0, 0, 1, 1)):
                forth = price_between(pattern_of(one), other, prices)
                self.assertEqual(forth, price_between(pattern_of(other), one, prices))
                self.assertEqual(forth == 0, one == other)

    def test_by_a_word_between(self):
        words = all_words("ab", 3) + ("c", "abc", "cab", "bca")
        for prices in WITHOUT_TURNING:
            told = {(one, other): price_between(pattern_of(one), other, prices) for one in words for other in words}
            for one, between, other in product(words, words, words):
                if told[one, between] is not None and told[between, other] is not None:
                    self.assertLessEqual(told[one, other], told[one, between] + told[between, other])

    def test_by_a_word_between_turning_may_cost_more(self):
        # From ca by ac to abc: a turn and a sign put in. Straight on, what is turned about stays together.
        prices = (1, 1, 1, 1)
        self.assertEqual(price_between(pattern_of("ca"), "ac", prices), 1)
        self.assertEqual(price_between(pattern_of("ac"), "abc", prices), 1)
        self.assertEqual(price_between(pattern_of("ca"), "abc", prices), 3)


class TheBook(unittest.TestCase):
    def test_just_the_words_that_are_near_enough(self):
        random = Random(103)
        words = [some_text(random, "abc", random.randint(0, 8)) for time in range(60)]
        for order in (words, words[::-1], random.sample(words, 60)):
            book = Book()
            for word in order:
                book.put(word)
            for asked, most in product(("", "abc", "ccab", words[7], "zzzz"), (0, 1, 3, 8)):
                told = {(price_between(pattern_of(word), asked, PLAIN), word) for word in words}
                wanted = tuple(sorted(pair for pair in told if pair[0] <= most))
                self.assertEqual(book.near(asked, most), wanted)
                least = min(told)[0]
                self.assertEqual(book.nearest(asked), tuple(sorted(pair for pair in told if pair[0] == least)))


class CallsStandAlone(unittest.TestCase):
    def test_the_same_answers_in_another_order_of_asking(self):
        def ask(word, text, most):
            pattern = pattern_of(word)
            rooms = rooms_for(pattern, most, PLAIN)
            return (rooms, ends_by_rooms(rooms, text), ends_in(pattern, text, most, PLAIN),
                    row_between(pattern, text, PLAIN), kept_by_parts(word, most, text),
                    kept_by_counts(word, most, text), kept_by_pieces(word, most, text, 2),
                    ends_in_kept(word, most, text, ((0, len(text)),)), Finder(pattern, most, PLAIN).feed(text),
                    Bits(pattern, most).feed(text))

        questions = list(product(SMALL_WORDS, SMALL_TEXTS[::2], (0, 1, 2)))
        first = [ask(*question) for question in questions]
        again = [ask(*question) for question in reversed(questions)]
        self.assertTrue(again == first[::-1])


if __name__ == "__main__":
    unittest.main()
