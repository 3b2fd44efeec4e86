"""Rows of steps: how a pattern becomes a text, and at what price."""

from nearfind.cells import cells_of

CLASSES_USED = {"same": 1, "exchanged": 1, "put": 0, "left": 1, "turned": 2}
SIGNS_USED = {"same": 1, "exchanged": 1, "put": 1, "left": 0, "turned": 2}
PLACE_IN_PRICES = {"put": 0, "left": 1, "exchanged": 2, "turned": 3}


def row_between(P, T, prices):
    cells = cells_of(P, T, prices)
    if cells[-1][-1] is None:
        return None
    backward = []
    classes = len(P)
    signs = len(T)
    while classes > 0 or signs > 0:
        step = last_step(cells, P, T, prices, classes, signs)
        backward.append(step)
        classes = classes - CLASSES_USED[step]
        signs = signs - SIGNS_USED[step]
    return tuple(reversed(backward))


def leads(P, T, prices, row):
    classes = 0
    signs = 0
    for step in row:
        if not is_step(step) or not is_done(prices, step) or not can_stand(P, T, classes, signs, step):
            return False
        classes = classes + CLASSES_USED[step]
        signs = signs + SIGNS_USED[step]
    return classes == len(P) and signs == len(T)


def row_price(prices, row):
    return sum([step_price(prices, step) for step in row])


# Several steps may be right here; the first one is taken, so that an equal question has an equal answer.
def last_step(cells, pattern, text, prices, classes, signs):
    found = [step for step in CLASSES_USED if comes_last(cells, pattern, text, prices, classes, signs, step)]
    return found[0]


def comes_last(cells, pattern, text, prices, classes, signs, step):
    classes_ahead = classes - CLASSES_USED[step]
    signs_ahead = signs - SIGNS_USED[step]
    if classes_ahead < 0 or signs_ahead < 0:
        return False
    if not is_done(prices, step) or not can_stand(pattern, text, classes_ahead, signs_ahead, step):
        return False
    ahead = cells[classes_ahead][signs_ahead]
    return ahead is not None and ahead + step_price(prices, step) == cells[classes][signs]


# Whether the step can use up what comes behind so many classes and so many signs.
def can_stand(pattern, text, classes, signs, step):
    if classes + CLASSES_USED[step] > len(pattern) or signs + SIGNS_USED[step] > len(text):
        return False
    if step == "same":
        return text[signs] in pattern[classes]
    if step == "exchanged":
        return text[signs] not in pattern[classes]
    if step == "turned":
        return text[signs] in pattern[classes + 1] and text[signs + 1] in pattern[classes]
    return True


def is_step(written):
    return written in CLASSES_USED


def is_done(prices, step):
    return step == "same" or step_price(prices, step) != 0


def step_price(prices, step):
    if step == "same":
        return 0
    return prices[PLACE_IN_PRICES[step]]
