import unittest
from functools import lru_cache
from itertools import permutations, product
from random import Random

from nearfind.books import Book
from tests.slow import LETTERS, all_words, price_by_search, some_text

SMALL_WORDS = all_words("ab", 3) + ("abab", "c", "abc", "cab", "house", "mouse", "mosue")
MOSTS = (0, 1, 2, 8, 40)


@lru_cache(maxsize=None)
def price(one, other):
    return price_by_search(one, other)


def slow_tree(words):
    """All words but the first go to the branch of their price to it, and make a tree of their own there."""
    if not words:
        return None
    top = words[0]
    rest = [word for word in words if word != top]
    prices = sorted({price(top, word) for word in rest})
    return (top, tuple((cost, slow_tree([word for word in rest if price(top, word) == cost])) for cost in prices))


def slow_near(words, word, most):
    return tuple(sorted((price(other, word), other) for other in set(words) if price(other, word) <= most))


def slow_nearest(words, word):
    told = slow_near(words, word, 10000)
    return tuple(pair for pair in told if pair[0] == told[0][0])


def book_of(words):
    book = Book()
    for word in words:
        book.put(word)
    return book


def depth(tree):
    return 0 if tree is None else 1 + max([depth(branch) for cost, branch in tree[1]], default=0)


def sixty_words(random, letters, longest):
    words = []
    while len(words) < 60:
        word = some_text(random, letters, random.randint(0, longest))
        if word not in words:
            words.append(word)
    return words


class KnownBooks(unittest.TestCase):
    def test_no_word(self):
        book = Book()
        self.assertIsNone(book.tree())
        for word, most in product(("", "a", "a" * 40), MOSTS):
            self.assertEqual(book.near(word, most), ())
            self.assertEqual(book.nearest(word), ())

    def test_one_word(self):
        book = Book()
        self.assertIs(book.put("abc"), True)
        self.assertEqual(book.tree(), ("abc", ()))
        self.assertEqual(book.near("abc", 0), ((0, "abc"),))
        self.assertEqual(book.near("abd", 0), ())
        self.assertEqual(book.near("abd", 1), ((1, "abc"),))
        self.assertEqual(book.near("xyz", 2), ())
        self.assertEqual(book.near("xyz", 3), ((3, "abc"),))
        self.assertEqual(book.nearest("xyzxyz"), ((6, "abc"),))
        self.assertEqual(book.nearest("abc"), ((0, "abc"),))

    def test_the_same_word_again(self):
        book = Book()
        for word in ("abc", "abd", "ab", "abde", ""):
            self.assertIs(book.put(word), True)
            tree = book.tree()
            self.assertIs(book.put(word), False)
            self.assertIs(book.put("".join(list(word))), False)
            self.assertEqual(book.tree(), tree)
        for word in ("", "abde", "ab", "abd", "abc"):
            self.assertIs(book.put(word), False)
        self.assertEqual(book.tree(), tree)

    def test_the_word_without_letters(self):
        book = Book()
        self.assertIs(book.put(""), True)
        self.assertEqual(book.tree(), ("", ()))
        self.assertEqual(book.near("", 0), ((0, ""),))
        self.assertEqual(book.near("ab", 1), ())
        self.assertEqual(book.near("ab", 2), ((2, ""),))
        self.assertIs(book.put("ab"), True)
        self.assertIs(book.put(""), False)
        self.assertEqual(book.tree(), ("", ((2, ("ab", ())),)))
        self.assertEqual(book.nearest("a"), ((1, ""), (1, "ab")))

    def test_the_tree_behind_each_word(self):
        book = Book()
        for word, tree in (
                ("book", ("book", ())),
                ("books", ("book", ((1, ("books", ())),))),
                ("cake", ("book", ((1, ("books", ())), (4, ("cake", ()))))),
                ("boo", ("book", ((1, ("books", ((2, ("boo", ())),))), (4, ("cake", ()))))),
                ("boon", ("book", ((1, ("books", ((2, ("boo", ((1, ("boon", ())),))),))), (4, ("cake", ()))))),
                ("cook", ("book", ((1, ("books", ((2, ("boo", ((1, ("boon", ())), (2, ("cook", ()))))),))),
                                   (4, ("cake", ())))))):
            self.assertIs(book.put(word), True)
            self.assertEqual(book.tree(), tree)

    def test_branches_are_rising_whatever_comes_first(self):
        book = book_of(("aaaa", "bbbb", "aaab", "abbb", "aabb"))
        self.assertEqual(
            book.tree(), ("aaaa", ((1, ("aaab", ())), (2, ("aabb", ())), (3, ("abbb", ())), (4, ("bbbb", ())))))

    def test_turning_is_two_slips(self):
        self.assertEqual(book_of(("mouse", "mosue")).tree(), ("mouse", ((2, ("mosue", ())),)))

    def test_several_words_are_equally_near(self):
        book = book_of(("mouse", "house", "louse", "horse", "moss"))
        self.assertEqual(book.nearest("rouse"), ((1, "house"), (1, "louse"), (1, "mouse")))
        self.assertEqual(book.nearest("house"), ((0, "house"),))
        self.assertEqual(book.near("house", 1), ((0, "house"), (1, "horse"), (1, "louse"), (1, "mouse")))
        self.assertEqual(
            book.near("house", 3), ((0, "house"), (1, "horse"), (1, "louse"), (1, "mouse"), (3, "moss")))


class AgainstTheSlowWays(unittest.TestCase):
    def check_asked(self, book, words, asked, mosts=MOSTS):
        for word in asked:
            for most in mosts:
                self.assertEqual(book.near(word, most), slow_near(words, word, most), (words, word, most))
            self.assertEqual(book.nearest(word), slow_nearest(words, word) if words else (), (words, word))

    def check_put(self, words):
        """Each word put in, the tree told behind it."""
        book = Book()
        for number, word in enumerate(words):
            self.assertIs(book.put(word), word not in words[:number], words[:number + 1])
            self.assertEqual(book.tree(), slow_tree(words[:number + 1]), words[:number + 1])
        return book

    def test_every_order_of_few_words(self):
        for words in permutations(("", "a", "ab", "ba", "abc"), 4):
            self.check_asked(self.check_put(words), words, ("", "a", "b", "ab", "abc", "cc", "abcd"))

    def test_small_words(self):
        random = Random(91)
        for time in range(30):
            words = [random.choice(SMALL_WORDS) for number in range(random.randint(1, 12))]
            self.check_asked(self.check_put(words), words, SMALL_WORDS)

    def test_sixty_words(self):
        random = Random(92)
        for letters, longest in (("ab", 6), ("abc", 10), (LETTERS, 5), ("abcd", 40)):
            words = sixty_words(random, letters, longest)
            book = self.check_put(words)
            asked = words[::20] + [some_text(random, letters, random.randint(0, longest)) for time in range(4)]
            self.check_asked(book, words, asked)

    def test_words_of_40_letters(self):
        random = Random(93)
        first = some_text(random, "abc", 40)
        words = [first]
        for place in range(0, 40, 3):
            words.append(first[:place] + "x" + first[place + 1:])
            words.append(words[-1][1:] + "y")
        book = self.check_put(words)
        self.check_asked(book, words, (first, words[3], first[:20] + "zz" + first[21:39], "b" * 40, ""))

    def test_a_deep_tree(self):
        # Each two of these have the same price, so that each word hangs below the one ahead of it.
        words = ["aa" + letter for letter in LETTERS]
        book = self.check_put(words)
        self.assertEqual(depth(book.tree()), 26)
        self.check_asked(book, words, ("aaa", "aa", "aab", "bbb", ""))

    def test_somewhat_beyond_the_bounds(self):
        random = Random(94)
        words = sixty_words(random, "ab", 8) + ["c" * 45, "cab" * 15]
        book = self.check_put(words)
        self.check_asked(book, words, ("", "ab", "c" * 44, "cab" * 16), (-1, 0, 3, 41, 45, 100))


class WhateverTheOrder(unittest.TestCase):
    def test_near_and_nearest_tell_the_same(self):
        random = Random(95)
        words = sixty_words(random, "abc", 7)
        asked = ["", "abc", "aaaa", "zz", words[0], words[59]]
        first = book_of(words)
        for order in (words[::-1], sorted(words), sorted(words, key=len), random.sample(words, 60)):
            other = book_of(order)
            for word in asked:
                self.assertEqual(other.nearest(word), first.nearest(word))
                for most in MOSTS:
                    self.assertEqual(other.near(word, most), first.near(word, most))

    def test_every_order_of_five_words(self):
        words = ("", "a", "ab", "ba", "bab")
        wanted = [slow_near(words, word, most) for word, most in product(SMALL_WORDS[:8], (0, 1, 2))]
        for order in permutations(words):
            book = book_of(order)
            told = [book.near(word, most) for word, most in product(SMALL_WORDS[:8], (0, 1, 2))]
            self.assertEqual(told, wanted, order)


class Several(unittest.TestCase):
    def test_two_books_beside_each_other(self):
        one, other = Book(), Book()
        self.assertIs(one.put("abc"), True)
        self.assertIsNone(other.tree())
        self.assertEqual(other.near("abc", 40), ())
        self.assertIs(other.put("abc"), True)
        self.assertIs(other.put("abd"), True)
        self.assertEqual(one.tree(), ("abc", ()))
        self.assertIs(one.put("abd"), True)
        self.assertIs(one.put("x"), True)
        self.assertEqual(other.tree(), ("abc", ((1, ("abd", ())),)))
        self.assertEqual(one.near("abc", 40), ((0, "abc"), (1, "abd"), (3, "x")))
        self.assertEqual(other.near("abc", 40), ((0, "abc"), (1, "abd")))

    def test_put_in_by_turns(self):
        random = Random(96)
        lists = [sixty_words(random, "ab", 7)[:20], sixty_words(random, "ab", 7)[:20]]
        books = [Book(), Book()]
        for number in range(20):
            for words, book in zip(lists, books):
                book.put(words[number])
        for words, book in zip(lists, books):
            self.assertEqual(book.tree(), slow_tree(words))
            self.assertEqual(book.near("abab", 3), slow_near(words, "abab", 3))


class KindsAndCalls(unittest.TestCase):
    def is_tree(self, tree):
        return type(tree) is tuple and len(tree) == 2 and type(tree[0]) is str and type(tree[1]) is tuple and all(
            type(branch) is tuple and len(branch) == 2 and type(branch[0]) is int and self.is_tree(branch[1])
            for branch in tree[1])

    def is_pairs(self, told):
        return type(told) is tuple and all(
            type(pair) is tuple and len(pair) == 2 and type(pair[0]) is int and type(pair[1]) is str for pair in told)

    def test_kinds(self):
        book = Book()
        for word in SMALL_WORDS + SMALL_WORDS[::3]:
            self.assertIs(type(book.put(word)), bool)
            self.assertTrue(self.is_tree(book.tree()))
            self.assertTrue(self.is_pairs(book.near("ab", 2)))
            self.assertTrue(self.is_pairs(book.nearest("ab")))

    def test_what_was_told_stays_as_it_was(self):
        book = book_of(("abc", "abd"))
        tree, near, nearest = book.tree(), book.near("abe", 1), book.nearest("abe")
        book.put("abe")
        book.put("")
        self.assertEqual(tree, ("abc", ((1, ("abd", ())),)))
        self.assertEqual(near, ((1, "abc"), (1, "abd")))
        self.assertEqual(nearest, near)

    def test_asking_changes_nothing(self):
        book = book_of(SMALL_WORDS)
        tree = book.tree()
        first = [(book.near(word, 2), book.nearest(word)) for word in SMALL_WORDS + ("zz", "abcabc")]
        self.assertEqual([(book.near(word, 2), book.nearest(word)) for word in SMALL_WORDS + ("zz", "abcabc")], first)
        self.assertEqual(book.tree(), tree)
        self.assertIs(book.put("zz"), True)


if __name__ == "__main__":
    unittest.main()
