"""Patterns and prices: how they are made, written, read and told from other things."""

from nearfind.errors import NoPattern

LETTERS = "abcdefghijklmnopqrstuvwxyz"
MOST_CLASSES = 40
NUMBER_OF_PRICES = 4
HIGHEST_PRICE = 9
PLAIN_PRICES = (1, 1, 1, 0)


def pattern_of(W):
    return tuple(W)


def show_pattern(P):
    return "".join([show_class(letters) for letters in P])


def show_class(letters):
    if letters == LETTERS:
        return "."
    if len(letters) == 1:
        return letters
    return "[" + letters + "]"


def read_pattern(thing):
    if not isinstance(thing, str):
        raise NoPattern("a pattern is read from a text alone")
    pattern = []
    begin = 0
    while begin < len(thing):
        end = end_of_class(thing, begin)
        pattern.append(read_class(thing[begin:end]))
        begin = end
    if len(pattern) > MOST_CLASSES:
        raise NoPattern("a pattern has at most 40 classes")
    return tuple(pattern)


def end_of_class(written, begin):
    if written[begin] != "[":
        return begin + 1
    closing = written.find("]", begin)
    if closing == -1:
        raise NoPattern("a bracket is not closed")
    return closing + 1


def read_class(written):
    letters = LETTERS if written == "." else written.strip("[]")
    # Each class has one way to be written: comparing with it refuses all other ways at once.
    if not is_class(letters) or show_class(letters) != written:
        raise NoPattern("this is not how a class is written")
    return letters


def is_class(letters):
    if letters == "" or not all([letter in LETTERS for letter in letters]):
        return False
    return list(letters) == sorted(set(letters))


def is_prices(thing):
    if not isinstance(thing, tuple) or len(thing) != NUMBER_OF_PRICES:
        return False
    return all([is_price(number) for number in thing])


def is_price(thing):
    # To Python True and False are ints, to the program they are no numbers.
    if isinstance(thing, bool) or not isinstance(thing, int):
        return False
    return 0 <= thing <= HIGHEST_PRICE
