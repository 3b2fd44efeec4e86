"""Finders: machines that read a text piece by piece and tell the ends of a pattern, at any prices."""

from nearfind.cells import first_column, further_column
from nearfind.ends import Sight


class Finder:
    def __init__(self, P, most, prices):
        self.pattern = P
        self.prices = prices
        self.columns = [first_column(P, prices)]
        self.last_sign = ""
        self.sight = Sight(most)
        self.sight.come(self.columns[-1][-1])

    def feed(self, T):
        for sign in T:
            self.read(sign)
        return self.sight.tell()

    def read(self, sign):
        column = further_column(self.columns, self.pattern, self.last_sign + sign, self.prices, True)
        # Turning reaches two signs back, also over the seam of two pieces, so that the last column is kept as well.
        self.columns = [self.columns[-1], column]
        self.last_sign = sign
        self.sight.come(column[-1])
