"""Books: words that hang in a tree by the prices between them, and are asked for near ones."""

from nearfind.cells import price_between
from nearfind.patterns import PLAIN_PRICES, pattern_of


class Book:
    def __init__(self):
        self.top = None

    def put(self, W):
        if self.top is None:
            self.top = Knot(W)
            return True
        return hang(self.top, W)

    def tree(self):
        if self.top is None:
            return None
        return tree_from(self.top)

    def near(self, W, most):
        if self.top is None:
            return ()
        found = []
        waiting = [self.top]
        while len(waiting) > 0:
            knot = waiting.pop()
            price = slips_between(knot.word, W)
            if price <= most:
                found.append((price, knot.word))
            waiting.extend(knots_in_reach(knot, price, most))
        return tuple(sorted(found))

    def nearest(self, W):
        if self.top is None:
            return ()
        # The word at the top is in the book too: none that is farther away than it is the nearest.
        told = self.near(W, slips_between(self.top.word, W))
        return tuple([(price, word) for price, word in told if price == told[0][0]])


# A word in the tree, and for each price that has a branch the knot that hangs there.
class Knot:
    def __init__(self, word):
        self.word = word
        self.branches = {}


def slips_between(word, other):
    return price_between(pattern_of(word), other, PLAIN_PRICES)


# Whether the word is new: where there are no slips between, it is there already.
def hang(top, word):
    knot = top
    price = slips_between(knot.word, word)
    while price > 0 and price in knot.branches:
        knot = knot.branches[price]
        price = slips_between(knot.word, word)
    if price == 0:
        return False
    knot.branches[price] = Knot(word)
    return True


def tree_from(knot):
    branches = []
    for price in sorted(knot.branches):
        branches.append((price, tree_from(knot.branches[price])))
    return (knot.word, tuple(branches))


# All words of a branch have its price to the knot's word. By way of that word a price is never lower than straight, so
# a branch whose price is farther than at most so many slips from the price asked with has no near words.
def knots_in_reach(knot, price, most):
    return [knot.branches[other] for other in knot.branches if abs(other - price) <= most]
