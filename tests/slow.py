"""What the tests share: patterns, texts and prices to ask with, and what is asked for, told the slow way.

The slow ways share nothing with the program's own.
"""

from functools import lru_cache
from heapq import heappop, heappush
from itertools import product

LETTERS = "abcdefghijklmnopqrstuvwxyz"
STEPS = ("put", "left", "exchanged", "turned")

PLAIN = (1, 1, 1, 0)
TURNING = (1, 1, 1, 1)

# Each price done and not done in every company, and then some that make one step dear or cheap beside the others.
MANY_PRICES = tuple(product((0, 1), repeat=4)) + (
    (2, 3, 4, 5), (1, 1, 3, 1), (1, 1, 2, 3), (9, 9, 1, 1), (1, 9, 9, 9), (9, 1, 9, 2), (3, 2, 0, 4), (0, 2, 3, 1),
    (2, 0, 3, 4), (0, 0, 9, 1), (1, 2, 9, 2), (9, 9, 9, 9),
)

SMALL_PATTERNS = tuple(product(("a", "b", "ab"), repeat=3)) + (
    ("a", "b", "bc"), ("a", LETTERS, "b"), ("ac", "b", "a"), ("a", "b", "c"), ("c", "a", "b"),
)
SMALL_TEXTS = tuple("".join(signs) for signs in product("ab", repeat=4)) + ("abca", "bacb", "cabc", "ccba", "xaby")


def all_words(letters, longest):
    """Every word of these letters of at most so many, the shortest first."""
    return tuple("".join(signs) for number in range(longest + 1) for signs in product(letters, repeat=number))


def some_pattern(random, letters, number):
    classes = []
    for place in range(number):
        size = random.choice((1, 1, 1, 2, len(letters)))
        classes.append("".join(sorted(random.sample(letters, size))))
    return tuple(classes)


def some_text(random, letters, number):
    return "".join(random.choice(letters) for place in range(number))


def some_pieces(random, text):
    """The text cut into pieces of unlike lengths, pieces without signs among them."""
    pieces = []
    begin = 0
    while begin < len(text):
        end = min(len(text), begin + random.choice((0, 0, 1, 1, 2, 3, 7, 20, 55, 300)))
        pieces.append(text[begin:end])
        begin = end
    return pieces


def all_cuts(text):
    """Every way to cut the text into pieces that have signs."""
    if not text:
        return [[]]
    return [[text[:end]] + rest for end in range(1, len(text) + 1) for rest in all_cuts(text[end:])]


def told_by_feeding(machine, pieces):
    """What each feeding tells, one behind another."""
    return [machine.feed(piece) for piece in pieces]


def told_by_piece(ends, pieces):
    """The ends as they come into sight by each piece, the end 0 by the first one."""
    told = []
    begin = -1
    length = 0
    for piece in pieces:
        length += len(piece)
        told.append(tuple((end, price) for end, price in ends if begin < end <= length))
        begin = length
    return told


def is_rows_of_numbers(told, length):
    """Whether it is a tuple of tuples of so many numbers, True and False being none."""
    return type(told) is tuple and all(
        type(row) is tuple and len(row) == length and all(type(number) is int for number in row) for row in told)


@lru_cache(maxsize=None)
def all_rows(pattern, text):
    """Every row of steps that leads from the pattern to the text, all steps taken as done."""
    rows = []
    if not pattern and not text:
        rows.append(())
    if pattern and text:
        step = "same" if text[0] in pattern[0] else "exchanged"
        rows += [(step,) + row for row in all_rows(pattern[1:], text[1:])]
    if text:
        rows += [("put",) + row for row in all_rows(pattern, text[1:])]
    if pattern:
        rows += [("left",) + row for row in all_rows(pattern[1:], text)]
    if len(pattern) > 1 and len(text) > 1 and text[0] in pattern[1] and text[1] in pattern[0]:
        rows += [("turned",) + row for row in all_rows(pattern[2:], text[2:])]
    return tuple(rows)


def is_done(row, prices):
    return all(price > 0 for step, price in zip(STEPS, prices) if step in row)


def sum_of(row, prices):
    return sum(price * row.count(step) for step, price in zip(STEPS, prices))


@lru_cache(maxsize=None)
def step_counts(pattern, text):
    """How often each step that costs is taken, for every row; equal counts told once."""
    return tuple(sorted({tuple(row.count(step) for step in STEPS) for row in all_rows(pattern, text)}))


def slow_price(pattern, text, prices):
    """The lowest price of all rows whose steps are done, each row looked at by itself."""
    found = []
    for counts in step_counts(pattern, text):
        if all(price > 0 or count == 0 for count, price in zip(counts, prices)):
            found.append(sum(count * price for count, price in zip(counts, prices)))
    return min(found, default=None)


def slow_free_price(pattern, text, prices):
    """The lowest price of any stretch that ends where the text ends."""
    found = [slow_price(pattern, text[begin:], prices) for begin in range(len(text) + 1)]
    return min([price for price in found if price is not None], default=None)


def slow_ends(pattern, text, most, prices):
    """The pairs of all ends whose lowest price of any stretch is at most that."""
    told = [(end, slow_free_price(pattern, text[:end], prices)) for end in range(len(text) + 1)]
    return tuple((end, price) for end, price in told if price is not None and price <= most)


def ends_by_search(pattern, text, most, prices):
    """The same for long patterns and texts."""
    told = enumerate(cells_by_search(pattern, text, prices, True)[-1])
    return tuple((end, price) for end, price in told if price is not None and price <= most)


def cells_by_search(pattern, text, prices, free=False):
    """The cells by going forward from the cheapest place known, for long patterns and texts."""
    put, left, exchanged, turned = prices
    cells = [[None] * (len(text) + 1) for number in range(len(pattern) + 1)]
    heap = [(0, 0, begin) for begin in range(len(text) + 1 if free else 1)]
    while heap:
        price, i, j = heappop(heap)
        if cells[i][j] is not None:
            continue
        cells[i][j] = price
        if i < len(pattern) and j < len(text):
            if text[j] in pattern[i]:
                heappush(heap, (price, i + 1, j + 1))
            elif exchanged:
                heappush(heap, (price + exchanged, i + 1, j + 1))
        if put and j < len(text):
            heappush(heap, (price + put, i, j + 1))
        if left and i < len(pattern):
            heappush(heap, (price + left, i + 1, j))
        if turned and i + 1 < len(pattern) and j + 1 < len(text):
            if text[j] in pattern[i + 1] and text[j + 1] in pattern[i]:
                heappush(heap, (price + turned, i + 2, j + 2))
    return tuple(tuple(row) for row in cells)


def price_by_search(word, text):
    """The plain price between a word and a text, for long ones too."""
    return cells_by_search(tuple(word), text, PLAIN)[-1][-1]


def column_by_search(pattern, text, most, prices):
    """The last cell of each row, with a free begin, None in the place of those above the price."""
    column = [row[-1] for row in cells_by_search(pattern, text, prices, True)]
    return tuple(None if cell is None or cell > most else cell for cell in column)
