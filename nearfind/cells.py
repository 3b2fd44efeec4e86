"""Cells: the lowest prices between the beginnings of a pattern and of a text."""

PUT = 0
LEFT = 1
EXCHANGED = 2
TURNED = 3


def cells_of(P, T, prices, free=False):
    rows = [first_row(T, prices, free)]
    for classes in range(1, len(P) + 1):
        rows.append(further_row(rows, P, T, prices, classes))
    return tuple(rows)


def price_between(P, T, prices):
    return cells_of(P, T, prices)[-1][-1]


def first_row(text, prices, free):
    row = [0]
    for signs in range(1, len(text) + 1):
        # Where the begin is free, the stretch without signs is there at each place, at nought.
        row.append(0 if free else stepped(row[signs - 1], prices[PUT]))
    return tuple(row)


def further_row(rows, pattern, text, prices, classes):
    above = rows[classes - 1]
    row = [stepped(above[0], prices[LEFT])]
    for signs in range(1, len(text) + 1):
        fits = text[signs - 1] in pattern[classes - 1]
        row.append(lowest([
            above[signs - 1] if fits else stepped(above[signs - 1], prices[EXCHANGED]),
            stepped(row[signs - 1], prices[PUT]),
            stepped(above[signs], prices[LEFT]),
            stepped(cell_ahead_of_turn(rows, pattern, text, classes, signs), prices[TURNED]),
        ]))
    return tuple(row)


def cell_ahead_of_turn(rows, pattern, text, classes, signs):
    if classes < 2 or signs < 2:
        return None
    if text[signs - 2] not in pattern[classes - 1] or text[signs - 1] not in pattern[classes - 2]:
        return None
    return rows[classes - 2][signs - 2]


# A price of 0 means that the step is not done, not that it is done for nothing.
def stepped(cell, price):
    if cell is None or price == 0:
        return None
    return cell + price


def lowest(cells):
    return min([cell for cell in cells if cell is not None], default=None)
