import unittest
from itertools import product
from random import Random

from nearfind.ends import ends_in
from nearfind.finders import Finder
from nearfind.patterns import pattern_of, read_pattern
from tests.slow import (
    LETTERS, MANY_PRICES, PLAIN, SMALL_PATTERNS, SMALL_TEXTS, TURNING, all_cuts, ends_by_search, is_rows_of_numbers,
    slow_ends, some_pattern, some_pieces, some_text, told_by_feeding, told_by_piece)

FEW_PATTERNS = ((), ("a",), ("ab",), ("a", "b"), ("b", "ab")) + SMALL_PATTERNS[::4]
FEW_TEXTS = ("", "a", "b", "ba", "cac") + SMALL_TEXTS[::2]


class KnownFeedings(unittest.TestCase):
    def feed(self, written, most, prices, pieces, wanted):
        with self.subTest(pattern=written, most=most, prices=prices, pieces=pieces):
            self.assertEqual(told_by_feeding(Finder(read_pattern(written), most, prices), pieces), wanted)

    def test_a_text_whole_and_in_pieces(self):
        self.feed("abc", 1, PLAIN, ["xabcx"], [((3, 1), (4, 0), (5, 1))])
        self.feed("abc", 1, PLAIN, ["xab", "cx"], [((3, 1),), ((4, 0), (5, 1))])
        self.feed("abc", 1, PLAIN, ["x", "a", "b", "c", "x"], [(), (), ((3, 1),), ((4, 0),), ((5, 1),)])

    def test_ends_are_counted_through_all_pieces(self):
        self.feed("ab", 0, PLAIN, ["ab", "ab", "abab"], [((2, 0),), ((4, 0),), ((6, 0), (8, 0))])
        self.feed("ab", 0, PLAIN, ["b" * 300, "b" * 300, "xab"], [(), (), ((603, 0),)])

    def test_the_end_0_is_told_by_the_first_feeding_alone(self):
        self.feed("ab", 2, (2, 1, 2, 0), ["", "", "a", ""], [((0, 2),), (), ((1, 1),), ()])
        self.feed("ab", 2, (2, 1, 2, 0), ["a", "", ""], [((0, 2), (1, 1)), (), ()])
        self.feed("", 0, PLAIN, ["", "", "ab", "", "c"], [((0, 0),), (), ((1, 0), (2, 0)), (), ((3, 0),)])
        self.feed("", 0, PLAIN, ["ab", ""], [((0, 0), (1, 0), (2, 0)), ()])
        self.feed("ab", 1, PLAIN, ["", "x"], [(), ()])

    def test_turned_over_the_seam_of_two_pieces(self):
        prices = (9, 9, 9, 1)
        self.feed("ab", 1, prices, ["ba"], [((2, 1),)])
        self.feed("ab", 1, prices, ["b", "a"], [(), ((2, 1),)])
        self.feed("ab", 1, prices, ["xb", "", "", "ax"], [(), (), (), ((3, 1),)])
        self.feed("ab", 1, prices, ["", "b", "", "a"], [(), (), (), ((2, 1),)])
        self.feed("cabd", 1, prices, ["c", "b", "a", "d"], [(), (), (), ((4, 1),)])

    def test_no_end_has_a_price(self):
        self.feed("ab", 400, (0, 0, 0, 0), ["", "xb", "a", "bx"], [(), (), (), ((4, 0),)])
        self.feed("ab", 400, (0, 0, 0, 0), ["", "b", "bbb"], [(), (), ()])

    def test_at_most_is_told_as_well_and_one_more_is_not(self):
        pattern = "a" * 40
        self.feed(pattern, 359, (9, 9, 9, 9), [""], [()])
        self.feed(pattern, 360, (9, 9, 9, 9), [""], [((0, 360),)])

    def test_somewhat_beyond_the_bounds(self):
        self.feed("ab", -1, PLAIN, ["", "abab"], [(), ()])
        self.feed("", -1, PLAIN, ["", "abab"], [(), ()])
        self.feed("ab", 500, PLAIN, ["ab"], [((0, 2), (1, 1), (2, 0))])
        finder = Finder(("a",) * 45, 405, (9, 9, 9, 9))
        self.assertEqual(finder.feed("")[0], (0, 405))
        self.assertEqual(Finder(("a",), 0, PLAIN).feed("b" * 330 + "a"), ((331, 0),))


class InPieces(unittest.TestCase):
    def check(self, pattern, most, prices, pieces, ends):
        told = told_by_feeding(Finder(pattern, most, prices), pieces)
        # Where hundreds of feedings differ, assertEqual takes minutes to show how.
        self.assertTrue(told == told_by_piece(ends, pieces), (pattern, most, prices, pieces))

    def test_every_cut_of_small_texts(self):
        for pattern, text in product(FEW_PATTERNS, FEW_TEXTS):
            for prices in MANY_PRICES:
                ends = slow_ends(pattern, text, 3, prices)
                for pieces in all_cuts(text):
                    self.check(pattern, 3, prices, pieces, ends)

    def test_whole_with_each_price(self):
        for pattern, text in product(FEW_PATTERNS, FEW_TEXTS):
            for prices in MANY_PRICES:
                ends = slow_ends(pattern, text, 400, prices)
                for most in (0, 1, 2, 5, 9, 400):
                    wanted = tuple(pair for pair in ends if pair[1] <= most)
                    self.assertEqual(Finder(pattern, most, prices).feed(text), wanted)

    def test_pieces_without_signs(self):
        for pattern, text in product(FEW_PATTERNS[::2], FEW_TEXTS):
            for prices in MANY_PRICES:
                ends = slow_ends(pattern, text, 3, prices)
                for pieces in (["", text], ["", "", text, ""], [text, "", ""], ["", text[:2], "", "", text[2:], ""],
                               [""] + list(text) + [""]):
                    self.check(pattern, 3, prices, pieces, ends)

    def test_40_classes_and_300_signs(self):
        random = Random(41)
        for letters, prices in (
                ("ab", PLAIN), ("abc", TURNING), ("ab", (2, 3, 4, 1)), (LETTERS, (9, 9, 9, 9)), ("abc", (0, 1, 1, 1)),
                ("ab", (1, 0, 1, 1)), ("ab", (1, 1, 0, 2)), ("abc", (0, 0, 0, 0)), ("ab", (0, 0, 1, 0))):
            pattern = some_pattern(random, letters, 40)
            text = some_text(random, letters, 300)
            for most in (400, 12):
                ends = ends_by_search(pattern, text, most, prices)
                self.assertEqual(ends_in(pattern, text, most, prices), ends)
                for pieces in ([text], list(text), some_pieces(random, text), [""] + some_pieces(random, text)):
                    self.check(pattern, most, prices, pieces, ends)

    def test_more_than_300_letters_through_all_pieces(self):
        random = Random(42)
        for prices in (PLAIN, TURNING, (3, 2, 1, 2), (0, 0, 9, 1)):
            for number in (0, 1, 7, 40):
                pattern = some_pattern(random, "abc", number)
                text = some_text(random, "abc", 1000)
                ends = ends_by_search(pattern, text, 15, prices)
                longest = [text[begin:begin + 300] for begin in range(0, 1000, 300)]
                for pieces in (list(text), some_pieces(random, text), longest):
                    self.check(pattern, 15, prices, pieces, ends)

    def test_a_stretch_over_many_pieces(self):
        word = "abcdefghijklmnopqrstuvwxyzabcdefghijklmn"
        pieces = ["z" * 300] * 4 + list(word) + ["z" * 300] * 2
        self.check(pattern_of(word), 1, PLAIN, pieces, ((1239, 1), (1240, 0), (1241, 1)))


class Several(unittest.TestCase):
    def test_two_finders_of_the_same_pattern_fed_by_turns(self):
        random = Random(43)
        for prices in MANY_PRICES:
            pattern = some_pattern(random, "ab", 4)
            texts = [some_text(random, "ab", 40), some_text(random, "ab", 55)]
            pieces = [some_pieces(random, text) for text in texts]
            finders = [Finder(pattern, 4, prices) for text in texts]
            told = [[], []]
            for time in range(max(len(cut) for cut in pieces)):
                for number in (0, 1):
                    if time < len(pieces[number]):
                        told[number].append(finders[number].feed(pieces[number][time]))
            for number in (0, 1):
                ends = ends_by_search(pattern, texts[number], 4, prices)
                self.assertEqual(told[number], told_by_piece(ends, pieces[number]))

    def test_two_finders_of_the_same_text_at_other_prices(self):
        one = Finder(("a", "b"), 2, PLAIN)
        other = Finder(("a", "b"), 400, (9, 9, 9, 1))
        for sign, first, second in (
                ("b", ((0, 2), (1, 1)), ((0, 18), (1, 9))), ("a", ((2, 1),), ((2, 1),)), ("b", ((3, 0),), ((3, 0),))):
            self.assertEqual(one.feed(sign), first)
            self.assertEqual(other.feed(sign), second)


class KindsAndCalls(unittest.TestCase):
    def test_kinds(self):
        for pattern, prices in product((("a", "b"), (), ("ab",)), MANY_PRICES):
            finder = Finder(pattern, 400, prices)
            for piece in ("", "xab", "", "ba"):
                self.assertTrue(is_rows_of_numbers(finder.feed(piece), 2))

    def test_what_was_told_stays_as_it_was(self):
        finder = Finder(("a",), 1, PLAIN)
        first = finder.feed("ab")
        finder.feed("aaa")
        self.assertEqual(first, ((0, 1), (1, 0), (2, 1)))

    def test_an_equal_question_has_an_equal_answer(self):
        for prices in MANY_PRICES:
            pieces = ["xa", "", "bba", "b"]
            first = told_by_feeding(Finder(("a", "b"), 3, prices), pieces)
            self.assertEqual(told_by_feeding(Finder(tuple(["a", "b"]), 3, tuple(list(prices))), pieces), first)


if __name__ == "__main__":
    unittest.main()
