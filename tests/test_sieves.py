import unittest
from collections import Counter
from itertools import product
from random import Random

from nearfind.sieves import kept_by_counts, kept_by_parts, kept_by_pieces
from tests.slow import LETTERS, PLAIN, all_words, is_rows_of_numbers, slow_price, some_text

LENGTHS = (1, 2, 3, 4, 5, 6)
SMALL_WORDS = all_words("ab", 3) + ("abab", "aabb", "c", "abc", "cab", "abca", "aabaab")
SMALL_TEXTS = all_words("ab", 4)[::2] + ("abab", "c", "abcab", "cabac", "bbcaab", "aabaaba", "xxaxxbx")


def all_sieves():
    """Each sieve as a function of a word, at most so many slips, and a text, with its slow way."""
    sieves = [(kept_by_parts, slow_parts), (kept_by_counts, slow_counts)]
    for long in LENGTHS:
        sieves.append((
            lambda word, most, text, long=long: kept_by_pieces(word, most, text, long),
            lambda word, most, text, long=long: slow_pieces(word, most, text, long)))
    return sieves


def slow_parts(word, most, text):
    m, k, n = len(word), most, len(text)
    found = []
    for i in range(k + 1):
        a = i * m // (k + 1)
        part = word[a:(i + 1) * m // (k + 1)]
        for t in range(n + 1):
            if text[t:].startswith(part):
                found.append((max(0, t - a - k), min(n, t + m - a + k)))
    return slow_joined(found)


def slow_windows(word, most, text):
    return [(max(0, end - len(word) - most), end) for end in range(len(text) + 1)]


def slow_counts(word, most, text):
    found = []
    for begin, end in slow_windows(word, most, text):
        lacking = Counter(word) - Counter(text[begin:end])
        if sum(lacking.values()) <= most:
            found.append((begin, end))
    return slow_joined(found)


def slow_pieces(word, most, text, long):
    found = []
    for begin, end in slow_windows(word, most, text):
        shared = Counter(pieces_of(word, long)) & Counter(pieces_of(text[begin:end], long))
        if sum(shared.values()) >= len(word) - long + 1 - most * long:
            found.append((begin, end))
    return slow_joined(found)


def pieces_of(text, long):
    return [text[place:place + long] for place in range(len(text)) if place + long <= len(text)]


def slow_joined(stretches):
    """Places and signs are walked by turns: a stretch has its signs and the places at both ends of each."""
    had = {spot for begin, end in stretches for spot in range(2 * begin, 2 * end + 1)}
    firsts = sorted(spot for spot in had if spot - 1 not in had)
    lasts = sorted(spot for spot in had if spot + 1 not in had)
    return tuple((first // 2, last // 2) for first, last in zip(firsts, lasts))


class Sieve(unittest.TestCase):
    def parts(self, word, most, text, wanted):
        with self.subTest(word=word, most=most, text=text):
            self.assertEqual(kept_by_parts(word, most, text), wanted)

    def counts(self, word, most, text, wanted):
        with self.subTest(word=word, most=most, text=text):
            self.assertEqual(kept_by_counts(word, most, text), wanted)

    def pieces(self, word, most, text, long, wanted):
        with self.subTest(word=word, most=most, text=text, long=long):
            self.assertEqual(kept_by_pieces(word, most, text, long), wanted)


class ByParts(Sieve):
    def test_without_slips_the_word_itself_is_kept(self):
        self.parts("abc", 0, "xabcxxabc", ((1, 4), (6, 9)))
        self.parts("abc", 0, "xabxcx", ())
        self.parts("aba", 0, "xababax", ((1, 6),))
        self.parts("abc", 0, "abc", ((0, 3),))

    def test_each_part_by_itself(self):
        self.parts("abcd", 1, "xxxabxxxxx", ((2, 8),))
        self.parts("abcd", 1, "xxxxxcdxxx", ((2, 8),))
        self.parts("abcd", 1, "xxxbcxxxxx", ())
        self.parts("abcde", 1, "xxxxabxxxxx", ((3, 10),))
        self.parts("abcde", 1, "xxxxcdexxxx", ((1, 8),))
        self.parts("abcde", 1, "xxxxcdxxxxx", ())

    def test_cut_off_where_the_text_begins_and_ends(self):
        self.parts("abcd", 1, "ab", ((0, 2),))
        self.parts("abcd", 1, "cd", ((0, 2),))
        self.parts("abcd", 1, "xxcdx", ((0, 5),))
        self.parts("abcd", 1, "xxxxxxcd", ((3, 8),))
        self.parts("abcd", 1, "abxxxxxx", ((0, 5),))

    def test_stretches_that_meet_touch_and_have_a_sign_between(self):
        # The part ab at 2 has the stretch from 1 to 7, the part cd at t the one from t - 3 to t + 3.
        self.parts("abcd", 1, "xxabxxxxxcdxxxxx", ((1, 12),))
        self.parts("abcd", 1, "xxabxxxxxxcdxxxx", ((1, 13),))
        self.parts("abcd", 1, "xxabxxxxxxxcdxxx", ((1, 7), (8, 14)))
        self.parts("abcd", 1, "xxabxxxxxxxxcdxx", ((1, 7), (9, 15)))

    def test_a_part_that_is_found_later_may_begin_ahead(self):
        self.parts("abcd", 1, "cdxxxxxxxxxxxab", ((0, 3), (12, 15)))
        self.parts("abcd", 1, "xxxxxxcdxxab", ((3, 12),))

    def test_a_stretch_within_another_one(self):
        self.parts("aaaa", 1, "xxxaaaaxxx", ((0, 10),))
        self.parts("abab", 1, "xxxababxxxxx", ((0, 10),))

    def test_more_parts_than_letters(self):
        self.parts("ab", 2, "xxxxx", ((0, 5),))
        self.parts("ab", 2, "", ((0, 0),))
        self.parts("a", 1, "xyz", ((0, 3),))
        self.parts("a", 40, "xyz", ((0, 3),))
        self.parts("a" * 40, 40, "x" * 300, ((0, 300),))
        self.parts("a" * 40, 39, "x" * 300, ())
        self.parts("a" * 40, 39, "x" * 150 + "a" + "x" * 149, ((72, 229),))

    def test_the_word_without_letters(self):
        self.parts("", 0, "abc", ((0, 0), (1, 1), (2, 2), (3, 3)))
        self.parts("", 1, "abc", ((0, 3),))
        for most in (0, 1, 40):
            self.parts("", most, "", ((0, 0),))

    def test_the_text_without_signs(self):
        self.parts("abc", 0, "", ())
        self.parts("abc", 2, "", ())
        self.parts("abc", 3, "", ((0, 0),))
        self.parts("abc", 40, "", ((0, 0),))

    def test_a_word_longer_than_the_text(self):
        self.parts("abcdef", 0, "abc", ())
        self.parts("abcdef", 1, "ab", ())
        self.parts("abcdef", 1, "abc", ((0, 3),))
        self.parts("abcdef", 2, "cd", ((0, 2),))


class ByCounts(Sieve):
    def test_without_slips_each_order_of_the_letters_is_kept(self):
        self.counts("ab", 0, "abxba", ((0, 2), (3, 5)))
        self.counts("ab", 0, "abxxba", ((0, 2), (4, 6)))
        self.counts("ab", 0, "abba", ((0, 4),))
        self.counts("aab", 0, "xabax", ((1, 4),))
        self.counts("aab", 0, "xabbx", ())

    def test_letters_count_as_often_as_the_word_has_them(self):
        self.counts("aaa", 1, "xaxxaaxx", ((1, 8),))
        self.counts("aaab", 1, "xxxaabxxx", ((1, 8),))
        self.counts("aaab", 1, "xxxabbbbbxxx", ())

    def test_windows_have_room_for_signs_put_in(self):
        self.counts("abc", 0, "abxc", ())
        self.counts("abc", 1, "xxxxabxcxxxx", ((2, 9),))
        self.counts("ab", 1, "axxb", ((0, 4),))

    def test_stretches_that_meet_touch_and_have_a_sign_between(self):
        self.counts("ab", 0, "xabax", ((1, 4),))
        self.counts("ab", 0, "xabbax", ((1, 5),))
        self.counts("ab", 0, "xabxbax", ((1, 3), (4, 6)))
        self.counts("a", 0, "aaxaxxa", ((0, 2), (3, 4), (6, 7)))

    def test_a_kept_stretch_without_signs(self):
        self.counts("", 0, "abc", ((0, 0), (1, 1), (2, 2), (3, 3)))
        self.counts("", 1, "abc", ((0, 3),))
        self.counts("a", 1, "", ((0, 0),))
        self.counts("ab", 2, "", ((0, 0),))
        for most in (0, 1, 40):
            self.counts("", most, "", ((0, 0),))

    def test_all_that_is_lacking_is_few_enough(self):
        self.counts("ab", 2, "xyz", ((0, 3),))
        self.counts("a" * 40, 40, "x" * 300, ((0, 300),))
        self.counts("a" * 40, 39, "x" * 300, ())
        self.counts("a" * 40, 39, "x" * 150 + "a" + "x" * 149, ((72, 229),))

    def test_the_text_without_signs_and_a_word_longer_than_the_text(self):
        self.counts("abc", 0, "", ())
        self.counts("abc", 2, "", ())
        self.counts("abc", 3, "", ((0, 0),))
        self.counts("abcdef", 0, "abcde", ())
        self.counts("abcdef", 1, "abcde", ((0, 5),))


class ByPieces(Sieve):
    def test_pieces_of_one_letter_tell_the_same_as_counts(self):
        for word, text, most in product(SMALL_WORDS, SMALL_TEXTS, (0, 1, 2, 3)):
            self.pieces(word, most, text, 1, kept_by_counts(word, most, text))

    def test_without_slips_all_pieces_are_shared(self):
        self.pieces("abc", 0, "xabcxcab", 2, ((1, 4),))
        self.pieces("abc", 0, "xabxbcx", 2, ())
        self.pieces("abc", 0, "xabcx", 3, ((1, 4),))
        self.pieces("aba", 0, "xabab", 2, ((1, 5),))
        self.pieces("aba", 0, "xbab", 2, ((1, 4),))

    def test_pieces_count_as_often_as_both_have_them(self):
        # abab has ab twice and ba once; at most none of the three is lacking.
        self.pieces("abab", 0, "xabbx", 2, ())
        self.pieces("abab", 0, "xababx", 2, ((1, 5),))
        self.pieces("abab", 0, "xababax", 2, ((1, 5),))
        self.pieces("aaaa", 0, "xaaax", 2, ())
        self.pieces("aaaa", 0, "xaaaax", 2, ((1, 5),))

    def test_each_slip_spoils_as_many_pieces_as_a_piece_has_letters(self):
        # abcdef has five pieces of two letters: at most 1 slip leaves three, at most 2 one, at most 3 none.
        self.pieces("abcdef", 1, "xxxxxxxxabcdxxxxxxxx", 2, ((5, 15),))
        self.pieces("abcdef", 1, "xxxxxxxxabcxxxxxxxxx", 2, ())
        self.pieces("abcdef", 2, "xxxxxxxxxcdxxxxxxxxx", 2, ((3, 17),))
        self.pieces("abcdef", 2, "xxxxxxxxxcxdxxxxxxxx", 2, ())
        self.pieces("abcdef", 3, "xxxxxxxxxxxxxxxxxxxx", 2, ((0, 20),))

    def test_stretches_that_meet_touch_and_have_a_sign_between(self):
        self.pieces("ab", 0, "abxab", 2, ((0, 2), (3, 5)))
        self.pieces("ab", 0, "abab", 2, ((0, 4),))
        self.pieces("aaa", 0, "xaaaax", 2, ((1, 5),))

    def test_pieces_longer_than_the_word(self):
        for long in (4, 5, 6):
            self.pieces("abc", 0, "xyz", long, ((0, 3),))
            self.pieces("abc", 1, "", long, ((0, 0),))
        self.pieces("abc", 0, "xyz", 3, ())
        self.pieces("", 0, "ab", 1, ((0, 0), (1, 1), (2, 2)))
        self.pieces("", 0, "ab", 6, ((0, 0), (1, 1), (2, 2)))
        self.pieces("", 1, "ab", 6, ((0, 2),))

    def test_the_text_without_signs_and_a_word_longer_than_the_text(self):
        for long in LENGTHS:
            self.pieces("abcdef", 0, "", long, ())
            self.pieces("abcdef", 0, "abcde", long, ())
            self.pieces("", 0, "", long, ((0, 0),))
            self.pieces("abcdef", 40, "abc", long, ((0, 3),))
        self.pieces("abcdef", 1, "abcde", 2, ((0, 5),))

    def test_forty_slips(self):
        self.pieces("a" * 40, 40, "x" * 300, 1, ((0, 300),))
        self.pieces("a" * 40, 39, "x" * 300, 1, ())
        for long in LENGTHS[1:]:
            self.pieces("a" * 40, 39, "x" * 300, long, ((0, 300),))


class AgainstTheSlowWays(unittest.TestCase):
    def check(self, word, most, text):
        for sieve, slow in all_sieves():
            self.assertEqual(sieve(word, most, text), slow(word, most, text), (word, most, text))

    def test_small_words_and_texts(self):
        for word, text, most in product(SMALL_WORDS, SMALL_TEXTS, (0, 1, 2, 3, 40)):
            self.check(word, most, text)

    def test_longer_ones(self):
        random = Random(71)
        for time in range(150):
            letters = random.choice(("ab", "abc", "abcdef", LETTERS))
            word = some_text(random, letters, random.randint(0, 12))
            text = some_text(random, letters, random.randint(0, 40))
            self.check(word, random.choice((0, 1, 2, 3, 5, 11, 12, 13)), text)

    def test_40_letters_and_300_signs(self):
        random = Random(72)
        for letters, most in product(("ab", "abcdef", LETTERS), (0, 1, 3, 8, 20, 39, 40)):
            word = some_text(random, letters, 40)
            text = some_text(random, LETTERS, 90) + word[:25] + some_text(random, LETTERS, 60) + word + some_text(
                random, letters, 85)
            self.assertEqual(len(text), 300)
            self.check(word, most, text)

    def test_somewhat_beyond_the_bounds(self):
        random = Random(73)
        word = some_text(random, "abc", 45)
        text = some_text(random, "abc", 330)
        for most in (0, 5, 41, 44, 45, 60):
            self.check(word, most, text)
            self.assertEqual(kept_by_pieces(word, most, text, 8), slow_pieces(word, most, text, 8))
        for word, text, most in product(("", "a", "abc"), ("", "abcabc"), (-1, -2)):
            for sieve, slow in all_sieves():
                self.assertEqual(sieve(word, most, text), ())


class NothingIsLost(unittest.TestCase):
    def test_each_stretch_that_has_the_word_lies_in_a_kept_one(self):
        for word, text, most in product(SMALL_WORDS[:-1], SMALL_TEXTS[:-1], (0, 1, 2)):
            near = [(begin, end) for end in range(len(text) + 1) for begin in range(end + 1)
                    if slow_price(tuple(word), text[begin:end], PLAIN) <= most]
            for sieve, slow in all_sieves():
                kept = sieve(word, most, text)
                for begin, end in near:
                    self.assertTrue(any(first <= begin and end <= last for first, last in kept), (word, most, text))


class KindsAndCalls(unittest.TestCase):
    def test_kinds_and_form(self):
        for word, text, most in product(SMALL_WORDS, SMALL_TEXTS, (0, 1, 2, 40)):
            for sieve, slow in all_sieves():
                kept = sieve(word, most, text)
                self.assertTrue(is_rows_of_numbers(kept, 2))
                self.assertTrue(all(0 <= begin <= end <= len(text) for begin, end in kept))
                self.assertTrue(all(one[1] < other[0] for one, other in zip(kept, kept[1:])))

    def test_an_equal_question_has_an_equal_answer(self):
        questions = list(product(SMALL_WORDS[::3], (0, 1, 2), SMALL_TEXTS[::3]))
        first = [[sieve(*question) for sieve, slow in all_sieves()] for question in questions]
        for (word, most, text), wanted in reversed(list(zip(questions, first))):
            again = [sieve("".join(list(word)), most, "".join(list(text))) for sieve, slow in all_sieves()]
            self.assertEqual(again, wanted)


if __name__ == "__main__":
    unittest.main()
