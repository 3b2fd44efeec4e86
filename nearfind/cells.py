"""Cells: the lowest prices between the beginnings of a pattern and of a text."""

PUT = 0
LEFT = 1
EXCHANGED = 2
TURNED = 3


def cells_of(P, T, prices, free=False):
    columns = [first_column(P, prices)]
    for signs in range(1, len(T) + 1):
        columns.append(further_column(columns, P, T[:signs], prices, free))
    return tuple([row_across(columns, classes) for classes in range(len(P) + 1)])


def price_between(P, T, prices):
    return cells_of(P, T, prices)[-1][-1]


def row_across(columns, classes):
    return tuple([column[classes] for column in columns])


def first_column(pattern, prices):
    column = [0]
    for classes in range(1, len(pattern) + 1):
        column.append(stepped(column[classes - 1], prices[LEFT]))
    return tuple(column)


# The column of the whole text, by the columns of the text without its last sign. Of the columns and of the signs only
# the last two are looked at, so that a machine that reads a text of any length need not keep more.
def further_column(columns, pattern, text, prices, free):
    before = columns[-1]
    # Where the begin is free, the stretch without signs is there at each place, at nought.
    column = [0 if free else stepped(before[0], prices[PUT])]
    for classes in range(1, len(pattern) + 1):
        fits = text[-1] in pattern[classes - 1]
        column.append(lowest([
            before[classes - 1] if fits else stepped(before[classes - 1], prices[EXCHANGED]),
            stepped(before[classes], prices[PUT]),
            stepped(column[classes - 1], prices[LEFT]),
            stepped(cell_ahead_of_turn(columns, pattern, text, classes), prices[TURNED]),
        ]))
    return tuple(column)


def cell_ahead_of_turn(columns, pattern, text, classes):
    if classes < 2 or len(text) < 2:
        return None
    if text[-2] not in pattern[classes - 1] or text[-1] not in pattern[classes - 2]:
        return None
    return columns[-2][classes - 2]


# A price of 0 means that the step is not done, not that it is done for nothing.
def stepped(cell, price):
    if cell is None or price == 0:
        return None
    return cell + price


def lowest(cells):
    return min([cell for cell in cells if cell is not None], default=None)
