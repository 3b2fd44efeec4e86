"""Ends: where a pattern ends in a text, at what price, and by which stretch."""

from nearfind.cells import cells_of, lowest
from nearfind.steps import row_between


# The prices of the ends come one by one, from the end 0 on; those that are low enough wait here until they are told.
class Sight:
    def __init__(self, most):
        self.most = most
        self.end = 0
        self.pairs = []

    def come(self, price):
        if price is not None and price <= self.most:
            self.pairs.append((self.end, price))
        self.end = self.end + 1

    def tell(self):
        told = tuple(self.pairs)
        self.pairs = []
        return told


def ends_in(P, T, most, prices):
    sight = Sight(most)
    for price in prices_at_ends(P, T, prices):
        sight.come(price)
    return sight.tell()


def nearest_in(P, T, prices):
    return first_lowest(prices_at_ends(P, T, prices))


def stretch_at(P, T, end, prices):
    # No stretch ends outside the text, so there is no price there; a slice would take another end in its place.
    if end < 0 or end > len(T):
        return None
    nearest = first_lowest(prices_by_length(P, T[:end], prices))
    if nearest is None:
        return None
    begin = end - nearest[0]
    return (begin, row_between(P, T[begin:end], prices))


def ends_of_many(patterns, T, most, prices):
    found = []
    for number, pattern in enumerate(patterns):
        for end, price in ends_in(pattern, T, most, prices):
            found.append((end, number, price))
    return tuple(sorted(found))


def prices_at_ends(pattern, text, prices):
    return cells_of(pattern, text, prices, True)[-1]


# The price of each stretch that ends where the text does, the shortest first. A row of steps read backward leads from
# the pattern read backward to the stretch read backward, at the same price: so one table tells them all.
def prices_by_length(pattern, text, prices):
    return cells_of(pattern[::-1], text[::-1], prices)[-1]


def first_lowest(told):
    price = lowest(told)
    if price is None:
        return None
    return (told.index(price), price)
