"""Rooms: a machine that is made whole ahead of reading, with a room for each unlike column that some text has."""

from nearfind.cells import TURNED, first_column, further_column
from nearfind.errors import NoPrices, TooMany
from nearfind.patterns import LETTERS

MOST_ROOMS = 300


def rooms_for(P, most, prices):
    # Turning reaches two signs back: the column alone would not tell where one comes by a sign.
    if prices[TURNED] != 0:
        raise NoPrices("rooms are made for prices without turning alone")
    columns = [low_cells(first_column(P, prices), most)]
    numbers = {columns[0]: 0}
    rooms = []
    while len(rooms) < len(columns):
        column = columns[len(rooms)]
        behind = columns_behind(column, P, most, prices)
        for further in behind:
            if further not in numbers:
                numbers[further] = len(columns)
                columns.append(further)
        if len(columns) > MOST_ROOMS:
            raise TooMany("there would be more than 300 rooms")
        rooms.append((column[-1], tuple([numbers[further] for further in behind])))
    return tuple(rooms)


def ends_by_rooms(rooms, T):
    told = [rooms[number][0] for number in numbers_met(rooms, T)]
    return tuple([(end, price) for end, price in enumerate(told) if price is not None])


def numbers_met(rooms, text):
    numbers = [0]
    for sign in text:
        nexts = rooms[numbers[-1]][1]
        numbers.append(nexts[LETTERS.index(sign)])
    return numbers


# What is above the price stays above it, whatever steps follow: so these cells need not be told from one another.
def low_cells(column, most):
    return tuple([cell if cell is not None and cell <= most else None for cell in column])


def columns_behind(column, pattern, most, prices):
    return [low_cells(further_column([column], pattern, letter, prices, True), most) for letter in LETTERS]
