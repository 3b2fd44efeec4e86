"""Keeps: the ends of a word in the kept stretches of a text alone, at the plain prices."""

from nearfind.ends import ends_in
from nearfind.patterns import PLAIN_PRICES, pattern_of


def ends_in_kept(W, most, T, kept):
    found = []
    for begin, end in kept:
        # No stretch reaches beyond the text; a slice would count a begin below 0 from the text's end.
        found.extend(ends_in_stretch(W, most, T, max(begin, 0), min(end, len(T))))
    return tuple(found)


def ends_in_stretch(word, most, text, begin, end):
    if begin > end:
        return []
    told = ends_in(pattern_of(word), text[begin:end], most, PLAIN_PRICES)
    return [(begin + signs, price) for signs, price in told]
