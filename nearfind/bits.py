"""Rows of bits: a finder for the plain prices, which goes on in all numbers of classes at once.

There is a row for each number of slips. Its bit of number i is set where the first i classes stand, with at most so
many slips, in a stretch that ends behind the signs read so far.
"""

from nearfind.ends import Sight


class Bits:
    def __init__(self, P, most):
        self.fitting = fitting_bits(P)
        self.classes = len(P)
        self.rows = first_rows(self.classes, most)
        self.sight = Sight(most)
        self.sight.come(slips_of_whole(self.rows, self.classes))

    def feed(self, T):
        for sign in T:
            self.read(sign)
        return self.sight.tell()

    def read(self, sign):
        self.rows = further_rows(self.rows, self.fitting.get(sign, 0), self.classes)
        self.sight.come(slips_of_whole(self.rows, self.classes))


# For each letter the bits of the numbers of classes whose last class it fits.
def fitting_bits(pattern):
    fitting = {}
    for number, letters in enumerate(pattern):
        for letter in letters:
            fitting[letter] = fitting.get(letter, 0) | (1 << (number + 1))
    return fitting


# More slips than classes are never needed: with each class left out, the stretch without signs is reached.
def first_rows(classes, most):
    return [bits_up_to(slips) for slips in range(min(classes, most) + 1)]


def further_rows(rows, fitting, classes):
    further = []
    for slips, row in enumerate(rows):
        # The first bit is always set: no classes stand anywhere, in the stretch without signs.
        found = 1 | ((row << 1) & fitting)
        if slips > 0:
            put = rows[slips - 1]
            exchanged = rows[slips - 1] << 1
            left = further[slips - 1] << 1
            found = found | put | exchanged | left
        further.append(found & bits_up_to(classes))
    return further


def slips_of_whole(rows, classes):
    for slips, row in enumerate(rows):
        if (row & (1 << classes)) != 0:
            return slips
    return None


def bits_up_to(number):
    return (1 << (number + 1)) - 1
