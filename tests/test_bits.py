import unittest
from itertools import product
from random import Random

from nearfind.bits import Bits
from nearfind.finders import Finder
from nearfind.patterns import pattern_of, read_pattern
from tests.slow import (
    LETTERS, PLAIN, SMALL_PATTERNS, SMALL_TEXTS, all_cuts, ends_by_search, is_rows_of_numbers, slow_ends, some_pattern,
    some_pieces, some_text, told_by_feeding, told_by_piece)

FEW_PATTERNS = ((), ("a",), ("ab",), ("a", "b"), ("b", "ab"))
FEW_TEXTS = ("", "a", "b", "ba", "cac")


class KnownFeedings(unittest.TestCase):
    def feed(self, written, most, pieces, wanted):
        with self.subTest(pattern=written, most=most, pieces=pieces):
            self.assertEqual(told_by_feeding(Bits(read_pattern(written), most), pieces), wanted)

    def test_each_slip(self):
        self.feed("abc", 0, ["xabcx"], [((4, 0),)])
        self.feed("abc", 1, ["xabcx"], [((3, 1), (4, 0), (5, 1))])
        self.feed("abcd", 1, ["abxd"], [((4, 1),)])
        self.feed("abcd", 1, ["abxcd"], [((5, 1),)])
        self.feed("abcd", 1, ["abd"], [((3, 1),)])

    def test_turning_is_two_slips(self):
        self.feed("xaby", 1, ["xbay"], [()])
        self.feed("xaby", 2, ["xbay"], [((2, 2), (3, 2), (4, 2))])

    def test_classes(self):
        self.feed("a[bc].", 0, ["abzacadz"], [((3, 0), (6, 0))])
        self.feed("...", 0, ["abcd"], [((3, 0), (4, 0))])

    def test_the_end_0_is_told_by_the_first_feeding_alone(self):
        self.feed("ab", 2, ["", "", "a", ""], [((0, 2),), (), ((1, 1),), ()])
        self.feed("ab", 2, ["a", "", ""], [((0, 2), (1, 1)), (), ()])
        self.feed("ab", 1, ["", "x"], [(), ()])

    def test_the_pattern_of_no_classes(self):
        for most in (0, 1, 400):
            self.feed("", most, ["", "", "ab", "", "c"], [((0, 0),), (), ((1, 0), (2, 0)), (), ((3, 0),)])
            self.feed("", most, ["ab", ""], [((0, 0), (1, 0), (2, 0)), ()])

    def test_at_most_is_told_as_well_and_one_more_is_not(self):
        pattern = "a" * 40
        self.feed(pattern, 39, [""], [()])
        self.feed(pattern, 40, [""], [((0, 40),)])
        self.feed(pattern, 41, [""], [((0, 40),)])

    def test_somewhat_beyond_the_bounds(self):
        self.feed("ab", -1, ["", "abab"], [(), ()])
        self.feed("", -1, ["", "abab"], [(), ()])
        self.feed("ab", 500, ["ab"], [((0, 2), (1, 1), (2, 0))])
        self.assertEqual(Bits(("a",), 0).feed("b" * 330 + "a"), ((331, 0),))
        random = Random(51)
        pattern = some_pattern(random, "abc", 70)
        text = some_text(random, "abc", 320)
        for most in (10, 30, 70, 400):
            self.assertEqual(Bits(pattern, most).feed(text), ends_by_search(pattern, text, most, PLAIN))


class InPieces(unittest.TestCase):
    def check(self, pattern, most, pieces, ends):
        wanted = told_by_piece(ends, pieces)
        # Where hundreds of feedings differ, assertEqual takes minutes to show how.
        self.assertTrue(told_by_feeding(Bits(pattern, most), pieces) == wanted, (pattern, most, pieces))
        self.assertTrue(told_by_feeding(Finder(pattern, most, PLAIN), pieces) == wanted, (pattern, most, pieces))

    def test_every_stretch_of_small_texts(self):
        for pattern, text in product(FEW_PATTERNS + SMALL_PATTERNS, FEW_TEXTS + SMALL_TEXTS):
            for most in (0, 1, 2, 3, 4, 400):
                self.check(pattern, most, [text], slow_ends(pattern, text, most, PLAIN))

    def test_every_cut_of_small_texts(self):
        for pattern, text in product(FEW_PATTERNS + SMALL_PATTERNS[::3], FEW_TEXTS + SMALL_TEXTS[::3]):
            for most in (0, 1, 3):
                ends = slow_ends(pattern, text, most, PLAIN)
                for pieces in all_cuts(text):
                    self.check(pattern, most, pieces, ends)
                    self.check(pattern, most, [""] + pieces + [""], ends)

    def test_40_classes_and_300_signs(self):
        random = Random(52)
        for letters in ("ab", "abc", LETTERS):
            pattern = some_pattern(random, letters, 40)
            text = some_text(random, letters, 300)
            for most in (400, 40, 39, 20, 12, 0):
                ends = ends_by_search(pattern, text, most, PLAIN)
                for pieces in ([text], list(text), some_pieces(random, text), ["", ""] + some_pieces(random, text)):
                    self.check(pattern, most, pieces, ends)

    def test_patterns_of_each_length(self):
        random = Random(53)
        for number in range(41):
            pattern = some_pattern(random, "abcd", number)
            text = some_text(random, "abcd", 80)
            most = random.choice((number // 4, number // 2, number, 400))
            self.check(pattern, most, some_pieces(random, text), ends_by_search(pattern, text, most, PLAIN))

    def test_more_than_300_letters_through_all_pieces(self):
        random = Random(54)
        for number in (0, 1, 7, 40):
            pattern = some_pattern(random, "abc", number)
            text = some_text(random, "abc", 2000)
            ends = ends_by_search(pattern, text, 15, PLAIN)
            longest = [text[begin:begin + 300] for begin in range(0, 2000, 300)]
            for pieces in (list(text), some_pieces(random, text), longest):
                self.check(pattern, 15, pieces, ends)

    def test_a_stretch_over_many_pieces(self):
        word = "abcdefghijklmnopqrstuvwxyzabcdefghijklmn"
        pieces = ["z" * 300] * 4 + list(word) + ["z" * 300] * 2
        self.check(pattern_of(word), 1, pieces, ((1239, 1), (1240, 0), (1241, 1)))


class Several(unittest.TestCase):
    def test_two_of_the_same_pattern_fed_by_turns(self):
        random = Random(55)
        for most in (0, 1, 2, 5):
            pattern = some_pattern(random, "ab", 5)
            texts = [some_text(random, "ab", 40), some_text(random, "ab", 40)]
            machines = [Bits(pattern, most) for text in texts]
            told = [[], []]
            for signs in zip(*texts):
                for number in (0, 1):
                    told[number].append(machines[number].feed(signs[number]))
            for number in (0, 1):
                ends = ends_by_search(pattern, texts[number], most, PLAIN)
                self.assertEqual(told[number], told_by_piece(ends, list(texts[number])))


class KindsAndCalls(unittest.TestCase):
    def test_kinds(self):
        for pattern in (("a", "b"), (), ("ab",)):
            bits = Bits(pattern, 400)
            for piece in ("", "xab", "", "ba"):
                self.assertTrue(is_rows_of_numbers(bits.feed(piece), 2))

    def test_what_was_told_stays_as_it_was(self):
        bits = Bits(("a",), 1)
        first = bits.feed("ab")
        bits.feed("aaa")
        self.assertEqual(first, ((0, 1), (1, 0), (2, 1)))

    def test_an_equal_question_has_an_equal_answer(self):
        pieces = ["xa", "", "bba", "b"]
        first = told_by_feeding(Bits(("a", "b"), 2), pieces)
        self.assertEqual(told_by_feeding(Bits(tuple(["a", "b"]), 2), pieces), first)


if __name__ == "__main__":
    unittest.main()
