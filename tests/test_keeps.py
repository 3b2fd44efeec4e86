import unittest
from itertools import product
from random import Random

from nearfind.ends import ends_in
from nearfind.keeps import ends_in_kept
from nearfind.patterns import pattern_of
from nearfind.sieves import kept_by_counts, kept_by_parts, kept_by_pieces
from tests.slow import LETTERS, PLAIN, all_words, ends_by_search, is_rows_of_numbers, slow_ends, some_text

SMALL_WORDS = all_words("ab", 3) + ("abab", "aabb", "c", "abc", "cab")
SMALL_TEXTS = all_words("ab", 4)[::2] + ("abab", "c", "abcab", "cabac", "bbcaa")


def all_kept(word, most, text):
    """What each sieve keeps, pieces of each length among them."""
    kept = [kept_by_parts(word, most, text), kept_by_counts(word, most, text)]
    return kept + [kept_by_pieces(word, most, text, long) for long in range(1, 7)]


def some_stretches(random, length):
    """Stretches of a text of this length, rising, with a sign between each two at least."""
    places = sorted(random.sample(range(length + 1), 2 * random.randint(0, (length + 1) // 2)))
    stretches = list(zip(places[::2], places[1::2]))
    return tuple((begin, random.choice((begin, end, end))) for begin, end in stretches)


def told_in_kept(word, most, text, kept):
    return tuple(
        (begin + end, price) for begin, last in kept
        for end, price in ends_by_search(tuple(word), text[begin:last], most, PLAIN))


class KnownStretches(unittest.TestCase):
    def ends(self, word, most, text, kept, wanted):
        with self.subTest(word=word, most=most, text=text, kept=kept):
            self.assertEqual(ends_in_kept(word, most, text, kept), wanted)

    def test_no_stretch(self):
        for word, text in product(("", "a", "abc"), ("", "abc")):
            self.ends(word, 40, text, (), ())

    def test_the_whole_text(self):
        self.ends("abc", 1, "xabcx", ((0, 5),), ((3, 1), (4, 0), (5, 1)))
        for word, text, most in product(SMALL_WORDS, SMALL_TEXTS, (0, 1, 2, 40)):
            self.ends(word, most, text, ((0, len(text)),), slow_ends(tuple(word), text, most, PLAIN))

    def test_a_stretch_without_signs(self):
        self.ends("", 0, "abc", ((2, 2),), ((2, 0),))
        self.ends("ab", 2, "abc", ((2, 2),), ((2, 2),))
        self.ends("ab", 1, "abc", ((2, 2),), ())
        self.ends("ab", 2, "abc", ((0, 0), (3, 3)), ((0, 2), (3, 2)))
        self.ends("ab", 2, "", ((0, 0),), ((0, 2),))

    def test_ends_are_counted_in_the_whole_text(self):
        self.ends("ab", 0, "xxabxxab", ((1, 4), (6, 8)), ((4, 0), (8, 0)))
        self.ends("ab", 1, "xxabxxab", ((1, 4), (6, 8)), ((3, 1), (4, 0), (7, 1), (8, 0)))

    def test_a_stretch_is_a_text_by_itself(self):
        # What stands ahead of it and behind it in the text is not seen.
        self.ends("abc", 0, "xabcx", ((2, 5),), ())
        self.ends("abc", 0, "xabcx", ((1, 3),), ())
        self.ends("abc", 1, "xabcx", ((2, 5),), ((4, 1),))
        self.ends("abc", 3, "xabcx", ((2, 5),), ((2, 3), (3, 2), (4, 1), (5, 2)))
        self.ends("abcd", 0, "abcd", ((0, 1), (2, 4)), ())

    def test_several_stretches_with_one_sign_between(self):
        self.ends("a", 0, "ababa", ((0, 1), (2, 3), (4, 5)), ((1, 0), (3, 0), (5, 0)))
        self.ends("a", 1, "ababa", ((0, 1), (2, 3), (4, 5)), ((0, 1), (1, 0), (2, 1), (3, 0), (4, 1), (5, 0)))

    def test_turning_is_two_slips(self):
        self.ends("xaby", 1, "xbay", ((0, 4),), ())
        self.ends("xaby", 2, "xbay", ((0, 4),), ((2, 2), (3, 2), (4, 2)))

    def test_somewhat_beyond_the_bounds(self):
        self.ends("ab", 0, "abab", ((-2, 6),), ((2, 0), (4, 0)))
        self.ends("ab", 0, "abab", ((-1, 2), (3, 9)), ((2, 0),))
        self.ends("ab", 2, "abab", ((-3, -1), (5, 6)), ())
        self.ends("ab", -1, "abab", ((0, 4),), ())
        self.ends("ab", 500, "ab", ((0, 2),), ((0, 2), (1, 1), (2, 0)))
        self.ends("a" * 45, 45, "a" * 330, ((329, 330),), ((329, 45), (330, 44)))


class AgainstTheSlowWays(unittest.TestCase):
    def test_all_stretches_of_a_text(self):
        for word, most in product(("", "a", "ab", "aba", "bb"), (0, 1, 2)):
            text = "abcab"
            places = range(len(text) + 1)
            stretches = [(begin, end) for begin in places for end in places if begin <= end]
            for one, other in product(stretches, stretches):
                kept = (one, other) if one[1] < other[0] else (one,)
                wanted = tuple(
                    (begin + end, price) for begin, last in kept
                    for end, price in slow_ends(tuple(word), text[begin:last], most, PLAIN))
                self.assertEqual(ends_in_kept(word, most, text, kept), wanted, (word, most, kept))

    def test_some_stretches_of_long_texts(self):
        random = Random(81)
        for number, length in ((0, 30), (1, 30), (3, 50), (7, 60), (20, 120), (40, 300)):
            for most in (0, 1, 2, number // 2, 40):
                word = some_text(random, "abc", number)
                text = some_text(random, "abc", length)
                kept = some_stretches(random, length)
                self.assertEqual(ends_in_kept(word, most, text, kept), told_in_kept(word, most, text, kept))


class NothingIsLost(unittest.TestCase):
    def check(self, word, most, text, wanted):
        self.assertEqual(ends_in(pattern_of(word), text, most, PLAIN), wanted)
        for kept in all_kept(word, most, text):
            self.assertEqual(ends_in_kept(word, most, text, kept), wanted, (word, most, text, kept))

    def test_small_words_and_texts(self):
        for word, text, most in product(SMALL_WORDS, SMALL_TEXTS, (0, 1, 2, 3, 40)):
            self.check(word, most, text, slow_ends(tuple(word), text, most, PLAIN))

    def test_long_ones(self):
        random = Random(82)
        for number, letters in product((0, 1, 5, 12, 40), ("ab", "abcd", LETTERS)):
            for most in (0, 1, 2, 5, 40):
                word = some_text(random, letters, number)
                slipped = word[1:number // 2] + random.choice(LETTERS) + word[number // 2:]
                text = some_text(random, LETTERS, 80) + slipped + some_text(random, LETTERS, 60) + word
                text = text + some_text(random, letters, 300 - len(text))
                self.check(word, most, text, ends_by_search(tuple(word), text, most, PLAIN))


class KindsAndCalls(unittest.TestCase):
    def test_kinds(self):
        for word, text, most in product(SMALL_WORDS[::2], SMALL_TEXTS[::2], (0, 2, 40)):
            for kept in all_kept(word, most, text):
                self.assertTrue(is_rows_of_numbers(ends_in_kept(word, most, text, kept), 2))

    def test_an_equal_question_has_an_equal_answer(self):
        first = ends_in_kept("ab", 1, "xabbax", ((0, 2), (3, 6)))
        ends_in_kept("ba", 2, "xabbax", ((0, 6),))
        self.assertEqual(ends_in_kept("ab", 1, "".join(["xab", "bax"]), tuple([(0, 2), (3, 6)])), first)


if __name__ == "__main__":
    unittest.main()
