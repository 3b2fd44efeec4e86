import unittest
from itertools import product
from random import Random

from nearfind.ends import ends_in
from nearfind.errors import FindError, NoPattern, NoPrices, TooMany
from nearfind.finders import Finder
from nearfind.patterns import pattern_of, read_pattern
from nearfind.rooms import ends_by_rooms, rooms_for
from tests.slow import (
    LETTERS, MANY_PRICES, PLAIN, SMALL_PATTERNS, SMALL_TEXTS, column_by_search, ends_by_search, is_rows_of_numbers,
    slow_ends, some_pattern, some_text)

WITHOUT_TURNING = tuple(prices for prices in MANY_PRICES if prices[3] == 0) + (
    (2, 3, 4, 0), (9, 1, 9, 0), (1, 9, 9, 0), (3, 2, 0, 0), (0, 2, 3, 0), (2, 0, 3, 0))
FEW_PATTERNS = ((), ("a",), ("ab",), (LETTERS,), ("a", "b"), ("b", "ab"))
FEW_TEXTS = ("", "a", "b", "ba", "cac")

# Patterns with just so many rooms, as the search for columns below tells: by long columns and by short ones, with each
# step but turning not done.
ROOMS_300 = (
    ("a", 298, (1, 0, 0, 0)), ("babaabaab", 3, PLAIN), ("fdccadafadf", 2, PLAIN), ("aaccbbaaa", 3, (0, 1, 1, 0)),
    ("dddabdc", 3, (1, 0, 1, 0)), ("bccaacacbc", 3, (1, 1, 0, 0)), ("aaababbabbbbaaaabbabbbabbabaababaab", 1, PLAIN))
ROOMS_301 = (
    ("a", 299, (1, 0, 0, 0)), ("bbadadcd", 3, PLAIN), ("babbabdaada", 2, PLAIN), ("bbbaababb", 3, (0, 1, 1, 0)),
    ("bbabcab", 3, (1, 0, 1, 0)), ("ababbbccccc", 3, (1, 1, 0, 0)), ("bbcbabcbccbbcbbacaaabcbbcbbbaaccbbabc", 1, PLAIN))


def all_columns(pattern, most, prices):
    """Every column that some text has. Letters that no class has are alike: one of them stands for all."""
    letters = [letter for letter in LETTERS if any(letter in letters for letters in pattern)]
    letters += [letter for letter in LETTERS if letter not in letters][:1]
    found = {column_by_search(pattern, "", most, prices)}
    texts = [""]
    while texts:
        further = []
        for text in (text + letter for text in texts for letter in letters):
            column = column_by_search(pattern, text, most, prices)
            if column not in found:
                found.add(column)
                further.append(text)
        texts = further
    return found


class KnownRooms(unittest.TestCase):
    def test_the_pattern_of_no_classes_has_one_room(self):
        for most, prices in product((0, 1, 2, 400), WITHOUT_TURNING):
            self.assertEqual(rooms_for((), most, prices), ((0, (0,) * 26),))

    def test_one_letter_without_slips(self):
        for prices in WITHOUT_TURNING:
            self.assertEqual(rooms_for(("a",), 0, prices), ((None, (1,) + (0,) * 25), (0, (1,) + (0,) * 25)))
            self.assertEqual(rooms_for(("z",), 0, prices), ((None, (0,) * 25 + (1,)), (0, (0,) * 25 + (1,))))

    def test_one_letter_with_a_slip(self):
        self.assertEqual(rooms_for(("b",), 1, PLAIN), ((1, (0, 1) + (0,) * 24), (0, (0, 1) + (0,) * 24)))

    def test_the_class_of_all_letters(self):
        self.assertEqual(rooms_for((LETTERS,), 0, PLAIN), ((None, (1,) * 26), (0, (1,) * 26)))

    def test_a_word_without_slips_has_a_room_for_each_number_of_letters(self):
        for word in ("ab", "aaaa", "abcabd", LETTERS, LETTERS + LETTERS[:14]):
            rooms = rooms_for(pattern_of(word), 0, PLAIN)
            self.assertEqual(len(rooms), len(word) + 1)
            self.assertEqual(sorted(str(price) for price, nexts in rooms), ["0"] + ["None"] * len(word))

    def test_cells_above_the_price_are_not_told_from_one_another(self):
        # (0, 3, 6), (0, 0, 3), (0, 3, 0), (0, 3, 3): at most 2 the first one and the last one are alike.
        for most, number in ((0, 3), (2, 3), (3, 4), (5, 4), (6, 4), (400, 4)):
            self.assertEqual(len(rooms_for(("a", "b"), most, (0, 3, 0, 0))), number)
        # Putting in goes on beyond every price: (0, None), (0, 0), (0, 2), (0, 4) ..
        for most, number in ((0, 2), (1, 2), (2, 3), (3, 3), (4, 4), (400, 202)):
            self.assertEqual(len(rooms_for(("a",), most, (2, 0, 0, 0))), number)


class EachRoom(unittest.TestCase):
    def go_through(self, pattern, most, prices, letters=LETTERS):
        """From the first room on by each of the letters, each room by the first text that leads there."""
        question = (pattern, most, prices)
        rooms = rooms_for(*question)
        texts = {0: ""}
        columns = {0: column_by_search(pattern, "", most, prices)}
        waiting = [0]
        for number in waiting:
            for letter in letters:
                further = rooms[number][1][LETTERS.index(letter)]
                column = column_by_search(pattern, texts[number] + letter, most, prices)
                if further not in columns:
                    texts[further] = texts[number] + letter
                    columns[further] = column
                    waiting.append(further)
                self.assertEqual(columns[further], column, question)
        self.assertEqual(sorted(columns), list(range(len(rooms))), question)
        self.assertEqual(len(set(columns.values())), len(rooms), question)
        for number, column in columns.items():
            self.assertEqual(rooms[number][0], column[-1], question)

    def test_small_patterns(self):
        for pattern in FEW_PATTERNS + (("a", "b", "bc"), ("ab", "a", "b")):
            for most, prices in product((0, 1, 2, 3), WITHOUT_TURNING[::2] + ((0, 2, 3, 0), (2, 0, 3, 0))):
                self.go_through(pattern, most, prices)

    def test_small_patterns_at_high_prices(self):
        for pattern in FEW_PATTERNS + (("a", "b", "bc"), ("ab", "a", "b")):
            for most, prices in (
                    (5, (1, 0, 0, 0)), (9, (3, 0, 4, 0)), (8, (2, 3, 0, 0)), (27, (9, 9, 9, 0)), (26, (9, 9, 9, 0)),
                    (400, PLAIN), (400, (0, 9, 1, 0)), (400, (0, 0, 1, 0)), (400, (9, 1, 1, 0))):
                self.go_through(pattern, most, prices, "abcz")

    def test_many_patterns_by_few_letters(self):
        for pattern in SMALL_PATTERNS:
            for most, prices in product((1, 2), WITHOUT_TURNING[1::3]):
                self.go_through(pattern, most, prices, "abcz")

    def test_longer_words(self):
        self.go_through(pattern_of("mouse"), 1, PLAIN)
        self.go_through(pattern_of("abcd"), 2, PLAIN)
        self.go_through(read_pattern("a[bc].[abc]"), 2, (1, 2, 1, 0))
        self.go_through(pattern_of("abcab" * 8), 0, PLAIN, "abcz")

    def test_just_300_rooms(self):
        for word, most, prices in ROOMS_300[1:]:
            self.go_through(pattern_of(word), most, prices, sorted(set(word + "z")))


class HowMany(unittest.TestCase):
    def test_just_300_rooms(self):
        for word, most, prices in ROOMS_300:
            self.assertEqual(len(all_columns(pattern_of(word), most, prices)), 300)
            self.assertEqual(len(rooms_for(pattern_of(word), most, prices)), 300)

    def test_301_rooms_are_too_many(self):
        for word, most, prices in ROOMS_301:
            self.assertEqual(len(all_columns(pattern_of(word), most, prices)), 301)
            with self.assertRaises(TooMany) as raised:
                rooms_for(pattern_of(word), most, prices)
            self.assertNotIsInstance(raised.exception, (NoPattern, NoPrices))

    def test_far_too_many(self):
        for word, most, prices in (
                ("a", 400, (1, 0, 0, 0)), ("abcabcabdabcabcabd", 6, PLAIN), ("ab" * 20, 20, PLAIN),
                (LETTERS + LETTERS[:14], 40, PLAIN), ("abcd" * 10, 400, (9, 9, 9, 0)), ("abc" * 13, 30, (1, 0, 1, 0))):
            with self.assertRaises(TooMany):
                rooms_for(pattern_of(word), most, prices)

    def test_the_number_of_columns(self):
        random = Random(61)
        for time in range(25):
            pattern = some_pattern(random, "abc", random.randint(1, 5))
            prices = random.choice(WITHOUT_TURNING)
            most = random.choice((0, 1, 2, 4, 400 if prices[1] else 7))
            number = len(all_columns(pattern, most, prices))
            self.assertLessEqual(number, 300)
            self.assertEqual(len(rooms_for(pattern, most, prices)), number, (pattern, most, prices))


class Turning(unittest.TestCase):
    def refuse(self, pattern, most, prices):
        with self.subTest(pattern=pattern, most=most, prices=prices):
            with self.assertRaises(NoPrices) as raised:
                rooms_for(pattern, most, prices)
            self.assertIsInstance(raised.exception, FindError)
            self.assertNotIsInstance(raised.exception, (NoPattern, TooMany))

    def test_a_price_for_turning(self):
        for prices in MANY_PRICES + tuple((1, 1, 1, turned) for turned in range(10)):
            if prices[3] != 0:
                for pattern in FEW_PATTERNS:
                    self.refuse(pattern, 1, prices)

    def test_ahead_of_too_many(self):
        for word, most, prices in ROOMS_301 + (("ab" * 20, 20, PLAIN),):
            for turned in (1, 9):
                self.refuse(pattern_of(word), most, prices[:3] + (turned,))


class EndsByRooms(unittest.TestCase):
    def check(self, pattern, most, prices, text, wanted):
        self.assertEqual(ends_by_rooms(rooms_for(pattern, most, prices), text), wanted, (pattern, most, prices, text))

    def test_known_ends(self):
        rooms = rooms_for(pattern_of("abc"), 1, PLAIN)
        self.assertEqual(ends_by_rooms(rooms, "xabcx"), ((3, 1), (4, 0), (5, 1)))
        self.assertEqual(ends_by_rooms(rooms, ""), ())
        self.assertEqual(ends_by_rooms(rooms, "axbyc"), ())
        self.assertEqual(ends_by_rooms(rooms_for((), 0, PLAIN), "ab"), ((0, 0), (1, 0), (2, 0)))
        self.assertEqual(ends_by_rooms(rooms_for(("z",), 1, PLAIN), "az"), ((0, 1), (1, 1), (2, 0)))

    def test_rooms_in_another_order(self):
        swapped = ((None, (2,) + (0,) * 25), (0, (2, 0) + (0,) * 24), (None, (2, 1) + (0,) * 24))
        self.assertEqual(ends_by_rooms(swapped, "aabxab"), ((3, 0), (6, 0)))

    def test_every_stretch_of_small_texts(self):
        for pattern in FEW_PATTERNS + SMALL_PATTERNS[::4]:
            for most, prices in product((0, 1, 2, 5), WITHOUT_TURNING):
                rooms = rooms_for(pattern, most, prices)
                for text in FEW_TEXTS + SMALL_TEXTS[::2]:
                    wanted = slow_ends(pattern, text, most, prices)
                    question = (pattern, most, prices, text)
                    self.assertEqual(ends_by_rooms(rooms, text), wanted, question)
                    self.assertEqual(ends_in(pattern, text, most, prices), wanted, question)

    def test_long_texts(self):
        random = Random(62)
        for word, most, prices in ROOMS_300 + (("abcab", 2, PLAIN), ("abba", 400, PLAIN), (LETTERS, 1, PLAIN)):
            pattern = pattern_of(word)
            for letters in (word + "z", word):
                text = some_text(random, letters, 150) + word + some_text(random, letters, 150 - len(word))
                ends = ends_by_search(pattern, text, most, prices)
                self.check(pattern, most, prices, text, ends)
                self.assertEqual(Finder(pattern, most, prices).feed(text), ends)

    def test_40_classes_and_300_signs(self):
        random = Random(63)
        for most, prices in ((0, PLAIN), (0, (0, 0, 0, 0)), (1, (0, 0, 1, 0)), (9, (0, 9, 0, 0))):
            pattern = pattern_of(some_text(random, LETTERS, 40))
            slipped = "".join(pattern[:20]) + "".join(pattern[21:])
            text = some_text(random, LETTERS, 100) + "".join(pattern) + slipped + some_text(random, LETTERS, 121)
            self.check(pattern, most, prices, text, ends_by_search(pattern, text, most, prices))

    def test_somewhat_beyond_the_bounds(self):
        self.assertEqual(ends_by_rooms(rooms_for(("a", "b"), -1, PLAIN), "abab"), ())
        self.assertEqual(ends_by_rooms(rooms_for((), -1, PLAIN), "abab"), ())
        self.assertEqual(len(rooms_for(("a", "b"), -1, PLAIN)), 1)
        self.check(("a", "b"), 500, PLAIN, "ab", ((0, 2), (1, 1), (2, 0)))
        self.check(("a",), 0, PLAIN, "b" * 330 + "a", ((331, 0),))
        self.check(("a",) * 45, 0, PLAIN, "b" + "a" * 45, ((46, 0),))


class KindsAndCalls(unittest.TestCase):
    def test_kinds(self):
        for pattern, most, prices in product(FEW_PATTERNS, (0, 1, 9), WITHOUT_TURNING):
            rooms = rooms_for(pattern, most, prices)
            self.assertIs(type(rooms), tuple)
            self.assertTrue(all(type(room) is tuple and len(room) == 2 for room in rooms))
            self.assertTrue(all(price is None or type(price) is int for price, nexts in rooms))
            self.assertTrue(is_rows_of_numbers(tuple(nexts for price, nexts in rooms), 26))
            for text in FEW_TEXTS:
                self.assertTrue(is_rows_of_numbers(ends_by_rooms(rooms, text), 2))

    def test_an_equal_question_has_an_equal_answer(self):
        questions = [(pattern, most, prices) for pattern in SMALL_PATTERNS[::5] for most in (1, 3)
                     for prices in WITHOUT_TURNING]
        first = [rooms_for(*question) for question in questions]
        for (pattern, most, prices), wanted in reversed(list(zip(questions, first))):
            self.assertEqual(rooms_for(tuple(list(pattern)), most, tuple(list(prices))), wanted)
            self.assertEqual(ends_by_rooms(wanted, "abcab"), ends_by_rooms(wanted, "".join(["abc", "ab"])))


if __name__ == "__main__":
    unittest.main()
