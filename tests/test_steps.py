import unittest
from itertools import product
from random import Random

from nearfind.cells import price_between
from nearfind.patterns import pattern_of, read_pattern
from nearfind.steps import leads, row_between, row_price
from tests.slow import (
    LETTERS, MANY_PRICES, PLAIN, SMALL_PATTERNS, SMALL_TEXTS, TURNING, all_rows, cells_by_search, is_done, slow_price,
    some_pattern, some_text, sum_of)

ALL_STEPS = ("same", "exchanged", "put", "left", "turned")
NO_STEPS = ("", " ", "Same", "SAME", "same ", " same", "sam", "sameput", "putin", "leftout", "turn", "exchange",
            "samesame", "none", "0", "s")

FEW_PATTERNS = (
    (), ("a",), ("ab",), ("a", "b"), ("b", "ab"), ("a", "a"), ("ab", "ab"), ("a", "b", "a"), ("ab", "b", "c"))
FEW_TEXTS = ("", "a", "b", "ab", "ba", "aa", "cb", "aba", "bab", "bca")


def one_left_out(row):
    return [row[:place] + row[place + 1:] for place in range(len(row))]


def one_put_in(row, things):
    return [row[:place] + (thing,) + row[place:] for place in range(len(row) + 1) for thing in things]


def one_exchanged(row, things):
    return [row[:place] + (thing,) + row[place + 1:] for place in range(len(row)) for thing in things]


def changed_by_one(row, things):
    return one_left_out(row) + one_put_in(row, things) + one_exchanged(row, things)


class KnownRows(unittest.TestCase):
    def row(self, written, text, prices, wanted):
        with self.subTest(pattern=written, text=text, prices=prices):
            self.assertEqual(row_between(read_pattern(written), text, prices), wanted)

    def test_where_one_row_alone_has_the_lowest_price(self):
        self.row("abc", "abc", PLAIN, ("same", "same", "same"))
        self.row("a[bc].", "acz", PLAIN, ("same", "same", "same"))
        self.row("abc", "axc", PLAIN, ("same", "exchanged", "same"))
        self.row("abc", "ac", PLAIN, ("same", "left", "same"))
        self.row("abc", "abxc", PLAIN, ("same", "same", "put", "same"))
        self.row("abc", "xabc", PLAIN, ("put", "same", "same", "same"))
        self.row("abc", "bc", PLAIN, ("left", "same", "same"))
        self.row("abcd", "acbd", TURNING, ("same", "turned", "same"))
        self.row("abcd", "badc", TURNING, ("turned", "turned"))

    def test_no_classes_and_no_signs(self):
        for prices in MANY_PRICES:
            self.row("", "", prices, ())
        self.row("", "abc", (2, 3, 4, 5), ("put", "put", "put"))
        self.row("abc", "", (2, 3, 4, 5), ("left", "left", "left"))
        self.row("", "abc", (2, 0, 0, 0), ("put", "put", "put"))
        self.row("abc", "", (0, 3, 0, 0), ("left", "left", "left"))

    def test_no_row(self):
        self.row("", "a", (0, 1, 1, 1), None)
        self.row("a", "", (1, 0, 1, 1), None)
        self.row("ab", "axb", (0, 1, 1, 1), None)
        self.row("axb", "ab", (1, 0, 1, 1), None)
        self.row("a", "b", (1, 0, 0, 1), None)
        self.row("a", "b", (0, 1, 0, 1), None)
        self.row("ab", "ba", (0, 0, 0, 0), None)
        self.row("a", "b", (0, 0, 0, 0), None)

    def test_each_price_0_by_itself(self):
        self.row("ab", "abb", (0, 1, 1, 1), None)
        self.row("abb", "ab", (1, 0, 1, 1), None)
        self.assertIn(row_between(("a",), "b", (1, 1, 0, 1)), (("put", "left"), ("left", "put")))
        self.row("ab", "ba", (9, 9, 1, 0), ("exchanged", "exchanged"))

    def test_each_price_alone_above_0(self):
        self.row("ab", "xab", (1, 0, 0, 0), ("put", "same", "same"))
        self.row("acb", "ab", (0, 1, 0, 0), ("same", "left", "same"))
        self.row("ab", "ba", (0, 0, 1, 0), ("exchanged", "exchanged"))
        self.row("ab", "ba", (0, 0, 0, 1), ("turned",))
        self.row("ab", "ab", (0, 0, 0, 0), ("same", "same"))

    def test_turned_where_nothing_changes_costs_and_so_is_not_taken(self):
        for written, text in (("aa", "aa"), ("[ab][ab]", "ab"), ("..", "zz")):
            for prices in (TURNING, (0, 0, 0, 1), (9, 9, 9, 9), (9, 9, 9, 1)):
                self.row(written, text, prices, ("same", "same"))

    def test_the_cheaper_row_is_taken(self):
        self.row("a", "b", (9, 9, 1, 0), ("exchanged",))
        self.row("ab", "ba", (9, 9, 9, 1), ("turned",))
        self.row("ab", "ba", (9, 9, 1, 9), ("exchanged", "exchanged"))


class KnownPricesOfRows(unittest.TestCase):
    def test_each_step_costs_its_own_price(self):
        prices = (2, 3, 4, 5)
        for step, wanted in (("same", 0), ("put", 2), ("left", 3), ("exchanged", 4), ("turned", 5)):
            self.assertEqual(row_price(prices, (step,)), wanted)
            self.assertEqual(row_price(prices, (step,) * 3), 3 * wanted)
        self.assertEqual(row_price(prices, ("put", "same", "left", "turned", "same", "exchanged", "put")), 16)

    def test_the_row_of_no_steps(self):
        for prices in MANY_PRICES:
            self.assertEqual(row_price(prices, ()), 0)
            self.assertIs(type(row_price(prices, ())), int)

    def test_same_costs_nothing_at_any_prices(self):
        for prices in MANY_PRICES:
            self.assertEqual(row_price(prices, ("same",) * 40), 0)

    def test_long_rows(self):
        self.assertEqual(row_price((9, 9, 9, 9), ("put",) * 300 + ("left",) * 40), 3060)


class Leads(unittest.TestCase):
    def say(self, pattern, text, prices, row, wanted):
        self.assertIs(leads(pattern, text, prices, row), wanted, (pattern, text, prices, row))

    def test_the_row_of_no_steps(self):
        for prices in MANY_PRICES:
            self.say((), "", prices, (), True)
            self.say(("a",), "", prices, (), False)
            self.say((), "a", prices, (), False)
            self.say(("a",), "a", prices, (), False)

    def test_known_rows(self):
        pattern = read_pattern("a[bc].")
        self.say(pattern, "acz", PLAIN, ("same", "same", "same"), True)
        self.say(pattern, "adz", PLAIN, ("same", "exchanged", "same"), True)
        self.say(pattern, "adz", PLAIN, ("same", "same", "same"), False)
        self.say(pattern, "acz", PLAIN, ("same", "exchanged", "same"), False)
        self.say(pattern, "acz", PLAIN, ("exchanged", "same", "same"), False)
        self.say(pattern, "acz", PLAIN, ("put", "put", "put", "left", "left", "left"), True)
        self.say(pattern, "acz", PLAIN, ("left", "put", "left", "put", "left", "put"), True)
        self.say(pattern, "acz", PLAIN, ("same", "same", "put", "left"), True)
        self.say(pattern, "acz", PLAIN, ("same", "same", "put"), False)
        self.say(pattern, "acz", PLAIN, ("same", "same", "left"), False)

    def test_a_row_need_not_have_the_lowest_price(self):
        self.say(("a",), "a", (9, 9, 1, 1), ("put", "left"), True)
        self.say(("a",), "a", (9, 9, 1, 1), ("left", "put"), True)

    def test_turned(self):
        self.say(("a", "b"), "ba", TURNING, ("turned",), True)
        self.say(("a", "b"), "ab", TURNING, ("turned",), False)
        self.say(("a", "b"), "bb", TURNING, ("turned",), False)
        self.say(("a", "b"), "aa", TURNING, ("turned",), False)
        self.say(("ab", "c"), "cb", TURNING, ("turned",), True)
        self.say(("ab", "c"), "cd", TURNING, ("turned",), False)
        self.say(("a", "b"), "ba", PLAIN, ("turned",), False)
        self.say(("a",), "a", TURNING, ("turned",), False)
        self.say(("a", "b"), "b", TURNING, ("turned",), False)
        self.say(("b",), "ba", TURNING, ("turned",), False)
        self.say((), "", TURNING, ("turned",), False)

    def test_turned_where_nothing_changes(self):
        for pattern, text in ((("a", "a"), "aa"), (("ab", "ab"), "ab"), ((LETTERS, LETTERS), "zz")):
            self.say(pattern, text, TURNING, ("turned",), True)
            self.say(pattern, text, (0, 0, 0, 9), ("turned",), True)
            self.say(pattern, text, PLAIN, ("turned",), False)

    def test_steps_beyond_the_last_class_or_sign(self):
        for step in ALL_STEPS:
            self.say((), "", TURNING, (step,), False)
            self.say(("a", "b"), "ab", TURNING, ("same", "same", step), False)
        self.say(("a",), "", TURNING, ("same",), False)
        self.say((), "a", TURNING, ("same",), False)
        self.say(("a",), "", TURNING, ("exchanged",), False)
        self.say((), "a", TURNING, ("exchanged",), False)

    def test_a_step_whose_price_is_0(self):
        for place, (pattern, text, row) in enumerate((
                (("a",), "ab", ("same", "put")), (("a", "b"), "a", ("same", "left")),
                (("a",), "b", ("exchanged",)), (("a", "b"), "ba", ("turned",)))):
            for prices in product((0, 1, 9), repeat=4):
                self.say(pattern, text, prices, row, prices[place] > 0)

    def test_a_text_that_is_no_step(self):
        for pattern, text, row in (
                ((), "", ()), (("a",), "a", ("same",)), (("a", "b"), "ba", ("turned",)),
                (("a", "b"), "cb", ("exchanged", "same")), (("a", "b"), "bx", ("left", "same", "put"))):
            self.say(pattern, text, TURNING, row, True)
            for wrong in one_put_in(row, NO_STEPS) + one_exchanged(row, NO_STEPS):
                self.say(pattern, text, TURNING, wrong, False)

    def test_every_row_of_few_steps(self):
        things = ALL_STEPS + ("no step",)
        rows = [row for number in range(5) for row in product(things, repeat=number)]
        prices_tried = (TURNING, PLAIN, (0, 1, 1, 1), (1, 0, 1, 1), (1, 1, 0, 1), (0, 0, 0, 0))
        for pattern, text in product(FEW_PATTERNS, FEW_TEXTS):
            if len(pattern) + len(text) > 4:
                continue
            for prices in prices_tried:
                right = {row for row in all_rows(pattern, text) if is_done(row, prices)}
                for row in rows:
                    self.say(pattern, text, prices, row, row in right)


class AgainstAllRows(unittest.TestCase):
    def test_leads_where_each_step_is_done(self):
        for pattern, text in product(SMALL_PATTERNS[::4], SMALL_TEXTS[::3]):
            for prices in MANY_PRICES:
                for row in all_rows(pattern, text):
                    self.assertIs(leads(pattern, text, prices, row), is_done(row, prices), (pattern, text, prices, row))

    def test_the_price_is_the_sum(self):
        for pattern, text in product(SMALL_PATTERNS[::7], SMALL_TEXTS[::5]):
            for row in all_rows(pattern, text):
                for prices in ((2, 3, 4, 5), (9, 9, 9, 9), (1, 2, 9, 2)):
                    self.assertEqual(row_price(prices, row), sum_of(row, prices))

    def test_one_step_left_out_or_one_more_never_leads(self):
        for pattern, text in product(FEW_PATTERNS, FEW_TEXTS):
            for row in all_rows(pattern, text):
                self.assertIs(leads(pattern, text, TURNING, row), True)
                for wrong in one_left_out(row) + one_put_in(row, ALL_STEPS):
                    self.assertIs(leads(pattern, text, TURNING, wrong), False, (pattern, text, wrong))

    def test_one_step_exchanged(self):
        for pattern, text in product(FEW_PATTERNS, FEW_TEXTS):
            right = set(all_rows(pattern, text))
            for row in right:
                for other in one_exchanged(row, ALL_STEPS):
                    self.assertIs(leads(pattern, text, TURNING, other), other in right, (pattern, text, other))

    def test_one_sign_exchanged_left_out_or_put_in(self):
        for pattern, text in product(FEW_PATTERNS, FEW_TEXTS):
            for signs in changed_by_one(tuple(text), "abc"):
                changed = "".join(signs)
                right = set(all_rows(pattern, changed))
                for row in all_rows(pattern, text):
                    self.assertIs(leads(pattern, changed, TURNING, row), row in right, (pattern, changed, row))

    def test_one_class_exchanged_left_out_or_put_in(self):
        for pattern, text in product(FEW_PATTERNS, FEW_TEXTS):
            for changed in changed_by_one(pattern, ("a", "b", "ab", "c")):
                right = set(all_rows(changed, text))
                for row in all_rows(pattern, text):
                    self.assertIs(leads(changed, text, TURNING, row), row in right, (changed, text, row))

    def check(self, pattern, text, prices):
        question = (pattern, text, prices)
        right = [row for row in all_rows(pattern, text) if is_done(row, prices)]
        row = row_between(*question)
        if not right:
            self.assertIsNone(row, question)
            return
        self.assertIn(row, right, question)
        self.assertEqual(sum_of(row, prices), min(sum_of(other, prices) for other in right), question)
        self.assertEqual(row_price(prices, row), sum_of(row, prices), question)
        self.assertIs(leads(*question, row), True, question)

    def test_a_row_between_is_one_of_the_lowest(self):
        for pattern, text in product(SMALL_PATTERNS[::3], SMALL_TEXTS[::2]):
            for prices in MANY_PRICES:
                self.check(pattern, text, prices)

    def test_the_smallest_ones(self):
        for pattern, text in product(FEW_PATTERNS, FEW_TEXTS):
            for prices in product((0, 1, 3), repeat=4):
                self.check(pattern, text, prices)

    def test_none_just_where_there_is_no_price(self):
        for pattern, text in product(SMALL_PATTERNS, SMALL_TEXTS):
            for prices in MANY_PRICES:
                question = (pattern, text, prices)
                none = row_between(*question) is None
                self.assertEqual(none, slow_price(*question) is None, question)
                self.assertEqual(none, price_between(*question) is None, question)


class Long(unittest.TestCase):
    def check(self, pattern, text, prices):
        wanted = cells_by_search(pattern, text, prices)[-1][-1]
        row = row_between(pattern, text, prices)
        if wanted is None:
            self.assertIsNone(row)
            return
        self.assertIs(leads(pattern, text, prices, row), True)
        self.assertEqual(row_price(prices, row), wanted)
        self.assertEqual(sum_of(row, prices), wanted)
        for wrong in one_left_out(row) + [row + (step,) for step in ALL_STEPS] + [(step,) + row for step in ALL_STEPS]:
            self.assertIs(leads(pattern, text, prices, wrong), False)

    def test_long_patterns_and_texts(self):
        random = Random(21)
        for prices in MANY_PRICES:
            for letters, length in (("ab", 40), ("abc", 60), (LETTERS, 75)):
                self.check(some_pattern(random, letters, 40), some_text(random, letters, length), prices)

    def test_300_signs(self):
        random = Random(22)
        for prices in (PLAIN, TURNING, (2, 3, 4, 1), (9, 9, 9, 9), (1, 0, 1, 1), (0, 1, 1, 1)):
            self.check(some_pattern(random, "abc", 40), some_text(random, "abc", 300), prices)

    def test_one_letter_all_along(self):
        self.assertEqual(row_between(("a",) * 40, "a" * 40, (0, 0, 0, 0)), ("same",) * 40)
        self.assertEqual(row_between(("a",) * 40, "b" * 40, (0, 0, 9, 0)), ("exchanged",) * 40)
        self.assertEqual(row_between(pattern_of("ab" * 20), "ba" * 20, (0, 0, 0, 1)), ("turned",) * 20)
        self.assertEqual(row_between((), "b" * 300, PLAIN), ("put",) * 300)
        self.assertEqual(row_between(("a",) * 40, "", PLAIN), ("left",) * 40)

    def test_somewhat_beyond_the_bounds(self):
        random = Random(23)
        self.check(some_pattern(random, "ab", 50), some_text(random, "ab", 320), (1, 1, 1, 1))
        self.assertEqual(row_between(("a",), "b", (30, 30, 50, 0)), ("exchanged",))
        self.assertEqual(row_price((30, 31, 50, 12), ALL_STEPS), 123)


class KindsAndCalls(unittest.TestCase):
    def test_kinds(self):
        for pattern, text in (((), ""), (("a", "b"), "ba"), (("a", "bc", "a"), "xabca")):
            for prices in MANY_PRICES:
                row = row_between(pattern, text, prices)
                if row is not None:
                    self.assertIs(type(row), tuple)
                    self.assertTrue(all(type(step) is str for step in row))
                    self.assertIs(type(row_price(prices, row)), int)

    def test_an_equal_question_has_an_equal_answer(self):
        random = Random(24)
        questions = [(some_pattern(random, "ab", 12), some_text(random, "ab", 15), prices) for prices in MANY_PRICES]
        first = [row_between(*question) for question in questions]
        for pattern, text, prices in reversed(questions):
            leads(pattern, text, prices, ("same",))
            row_between(pattern, text, prices)
        for (pattern, text, prices), wanted in zip(questions, first):
            for time in range(2):
                asked_anew = (tuple(list(pattern)), "".join(list(text)), tuple(list(prices)))
                self.assertEqual(row_between(*asked_anew), wanted)


if __name__ == "__main__":
    unittest.main()
