"""Prices told the slow way, by ways that share nothing with the program's own."""

from functools import lru_cache
from heapq import heappop, heappush

STEPS = ("put", "left", "exchanged", "turned")


@lru_cache(maxsize=None)
def all_rows(pattern, text):
    """Every row of steps that leads from the pattern to the text, all steps taken as done."""
    rows = []
    if not pattern and not text:
        rows.append(())
    if pattern and text:
        step = "same" if text[0] in pattern[0] else "exchanged"
        rows += [(step,) + row for row in all_rows(pattern[1:], text[1:])]
    if text:
        rows += [("put",) + row for row in all_rows(pattern, text[1:])]
    if pattern:
        rows += [("left",) + row for row in all_rows(pattern[1:], text)]
    if len(pattern) > 1 and len(text) > 1 and text[0] in pattern[1] and text[1] in pattern[0]:
        rows += [("turned",) + row for row in all_rows(pattern[2:], text[2:])]
    return tuple(rows)


@lru_cache(maxsize=None)
def step_counts(pattern, text):
    """How often each step that costs is taken, for every row; equal counts told once."""
    return tuple(sorted({tuple(row.count(step) for step in STEPS) for row in all_rows(pattern, text)}))


def slow_price(pattern, text, prices):
    """The lowest price of all rows whose steps are done, each row looked at by itself."""
    found = []
    for counts in step_counts(pattern, text):
        if all(price > 0 or count == 0 for count, price in zip(counts, prices)):
            found.append(sum(count * price for count, price in zip(counts, prices)))
    return min(found, default=None)


def slow_free_price(pattern, text, prices):
    """The lowest price of any stretch that ends where the text ends."""
    found = [slow_price(pattern, text[begin:], prices) for begin in range(len(text) + 1)]
    return min([price for price in found if price is not None], default=None)


def cells_by_search(pattern, text, prices, free=False):
    """The cells by going forward from the cheapest place known, for long patterns and texts."""
    put, left, exchanged, turned = prices
    cells = [[None] * (len(text) + 1) for number in range(len(pattern) + 1)]
    heap = [(0, 0, begin) for begin in range(len(text) + 1 if free else 1)]
    while heap:
        price, i, j = heappop(heap)
        if cells[i][j] is not None:
            continue
        cells[i][j] = price
        if i < len(pattern) and j < len(text):
            if text[j] in pattern[i]:
                heappush(heap, (price, i + 1, j + 1))
            elif exchanged:
                heappush(heap, (price + exchanged, i + 1, j + 1))
        if put and j < len(text):
            heappush(heap, (price + put, i, j + 1))
        if left and i < len(pattern):
            heappush(heap, (price + left, i + 1, j))
        if turned and i + 1 < len(pattern) and j + 1 < len(text):
            if text[j] in pattern[i + 1] and text[j + 1] in pattern[i]:
                heappush(heap, (price + turned, i + 2, j + 2))
    return tuple(tuple(row) for row in cells)
