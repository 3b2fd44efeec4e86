import unittest
from itertools import combinations

from nearfind.errors import FindError, NoPattern, NoPrices, TooMany
from nearfind.patterns import pattern_of, read_pattern, show_pattern

LETTERS = "abcdefghijklmnopqrstuvwxyz"
WORD_OF_40 = (LETTERS + LETTERS[::-1])[:40]

WRITTEN = (
    ((), ""),
    (("a",), "a"),
    (("z",), "z"),
    ((LETTERS,), "."),
    (("ab",), "[ab]"),
    (("az",), "[az]"),
    ((LETTERS[1:],), "[" + LETTERS[1:] + "]"),
    ((LETTERS[:-1],), "[" + LETTERS[:-1] + "]"),
    (("a", "bc", LETTERS), "a[bc]."),
    (("bc", "bc"), "[bc][bc]"),
    (("ab", "a", "b", "ab"), "[ab]ab[ab]"),
    ((LETTERS, LETTERS, "x"), "..x"),
    (("a",) * 40, "a" * 40),
    (("aeiou",) * 40, "[aeiou]" * 40),
    ((LETTERS,) * 40, "." * 40),
)


class PatternOf(unittest.TestCase):
    def test_each_letter_is_a_class_of_its_own(self):
        self.assertEqual(pattern_of("abc"), ("a", "b", "c"))
        self.assertEqual(pattern_of("noon"), ("n", "o", "o", "n"))
        self.assertEqual(pattern_of("z"), ("z",))

    def test_the_word_without_letters(self):
        self.assertEqual(pattern_of(""), ())

    def test_a_word_of_40_letters(self):
        self.assertEqual(len(WORD_OF_40), 40)
        self.assertEqual(pattern_of(WORD_OF_40), tuple(letter for letter in WORD_OF_40))

    def test_a_word_is_written_as_itself(self):
        for word in ("", "a", "word", LETTERS, WORD_OF_40):
            self.assertEqual(show_pattern(pattern_of(word)), word)
            self.assertEqual(read_pattern(word), pattern_of(word))

    def test_it_is_a_tuple_of_texts(self):
        for word in ("", "word"):
            self.assertIs(type(pattern_of(word)), tuple)
            self.assertTrue(all(type(letters) is str for letters in pattern_of(word)))


class Written(unittest.TestCase):
    def test_patterns_are_written_class_by_class(self):
        for pattern, written in WRITTEN:
            with self.subTest(written):
                self.assertEqual(show_pattern(pattern), written)
                self.assertIs(type(show_pattern(pattern)), str)

    def test_what_is_written_so_is_read(self):
        for pattern, written in WRITTEN:
            with self.subTest(written):
                self.assertEqual(read_pattern(written), pattern)
                self.assertIs(type(read_pattern(written)), tuple)

    def test_every_class_of_few_or_of_almost_all_letters_comes_back(self):
        for number in (1, 2, 3, 23, 24, 25, 26):
            for letters in combinations(LETTERS, number):
                pattern = ("".join(letters), "q")
                self.assertEqual(read_pattern(show_pattern(pattern)), pattern)

    def test_patterns_of_each_length_come_back(self):
        classes = [LETTERS[begin:end] for begin in range(26) for end in range(begin + 1, 27)]
        for number in range(41):
            for begin in range(0, len(classes) - 40, 9):
                pattern = tuple(classes[begin:begin + number])
                self.assertEqual(read_pattern(show_pattern(pattern)), pattern)

    def test_an_equal_question_has_an_equal_answer(self):
        first = read_pattern("a[bc].")
        with self.assertRaises(NoPattern):
            read_pattern("[a]")
        self.assertEqual(read_pattern("".join(["a[b", "c]."])), first)
        self.assertEqual(show_pattern(first), show_pattern(("a", "bc", LETTERS)))


class Refused(unittest.TestCase):
    def refuse(self, thing):
        with self.subTest(thing=thing):
            with self.assertRaises(NoPattern) as taken:
                read_pattern(thing)
            self.assertIsInstance(taken.exception, FindError)
            self.assertIsInstance(taken.exception, ValueError)
            self.assertNotIsInstance(taken.exception, NoPrices)
            self.assertNotIsInstance(taken.exception, TooMany)

    def refuse_among_others(self, written):
        for thing in (written, "a" + written, written + "a", "[ab]" + written, written + "[ab]", "." + written + "."):
            self.refuse(thing)

    def test_a_class_of_one_letter_between_brackets(self):
        for letter in LETTERS:
            self.refuse_among_others("[" + letter + "]")

    def test_a_class_of_none(self):
        self.refuse_among_others("[]")

    def test_a_class_of_all_letters_between_brackets(self):
        self.refuse_among_others("[" + LETTERS + "]")

    def test_letters_twice(self):
        for written in ("[aa]", "[abb]", "[aab]", "[aba]", "[" + LETTERS + "z]", "[" + "ab" * 13 + "]"):
            self.refuse_among_others(written)

    def test_letters_not_rising(self):
        for written in ("[ba]", "[acb]", "[bac]", "[zy]", "[" + LETTERS[::-1] + "]", "[" + LETTERS[1:] + "a]"):
            self.refuse_among_others(written)

    def test_a_bracket_left_out(self):
        for written in ("[", "]", "[ab", "ab]", "a]b", "[ab].]", "[ab]c]", "[abc.", "[b-"):
            self.refuse(written)
        for written in ("]", "ab]", "]["):
            self.refuse_among_others(written)

    def test_a_bracket_doubled(self):
        for written in ("[[ab]", "[ab]]", "[[ab]]", "[[", "]]", "[[]]"):
            self.refuse_among_others(written)

    def test_a_bracket_within_another(self):
        for written in ("[a[bc]d]", "[a[b]", "[[ab]c]", "[a[bc]]", "[ab[]"):
            self.refuse_among_others(written)

    def test_a_sign_that_is_no_small_letter(self):
        signs = [chr(number) for number in range(32, 127)] + ["\n"]
        for sign in signs:
            if sign not in LETTERS + ".[]":
                self.refuse_among_others(sign)
                for body in (sign, sign + "a", "a" + sign, "a" + sign + "b", sign + "ab", "ab" + sign, sign * 2):
                    self.refuse("[" + body + "]")

    def test_the_point_within_brackets(self):
        for written in ("[.]", "[.a]", "[a.]", "[a.b]", "[..]"):
            self.refuse_among_others(written)

    def test_signs_that_only_look_near(self):
        for written in ("A", "aB", "[aB]", "[a-c]", "[^ab]", "a b", " ", " a", "a ", "a\n", "\na", "\n", "a*", "\\.",
                        "0", "a1"):
            self.refuse(written)

    def test_more_than_40_classes(self):
        for written in ("a" * 41, "." * 41, "[ab]" * 41, "a" * 40 + ".", "." + "[ab]" * 40, "a" * 300):
            self.refuse(written)

    def test_things_that_are_no_text(self):
        things = (None, True, False, 0, 7, 1.5, b"a", bytearray(b"a"), (), ("a",), ("a", "bc"), [], ["a"], {}, {"a": 1},
                  {"a"}, frozenset("a"), object(), str, range(3), NoPattern("a"), lambda: "a")
        for thing in things:
            self.refuse(thing)

    def test_what_is_handed_in_is_left_as_it_is(self):
        things = ["a", ["bc"]]
        self.refuse(things)
        self.assertEqual(things, ["a", ["bc"]])


if __name__ == "__main__":
    unittest.main()
