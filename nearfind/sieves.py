"""Sieves: they keep the stretches of a text in which a word may stand with few slips, at the plain prices."""


# Slips are fewer than parts, so that one part at least stands in the text as it is.
def kept_by_parts(W, most, T):
    found = []
    for number in range(most + 1):
        begin = number * len(W) // (most + 1)
        end = (number + 1) * len(W) // (most + 1)
        for place in places_of(W[begin:end], T):
            found.append((max(place - begin - most, 0), min(place + len(W) - begin + most, len(T))))
    return joined(found)


# A letter that a window does not lack is a piece of length 1 that it shares with the word; so where it lacks at most
# so many letters, it shares all the others.
def kept_by_counts(W, most, T):
    return kept_by_pieces(W, most, T, 1)


# Each slip spoils at most as many pieces as a piece has letters.
def kept_by_pieces(W, most, T, long):
    needed = len(W) - long + 1 - most * long
    pieces = times_of_pieces(W, long)
    found = []
    for begin, end in windows(W, most, T):
        if number_shared(pieces, times_of_pieces(T[begin:end], long)) >= needed:
            found.append((begin, end))
    return joined(found)


def places_of(part, text):
    return [place for place in range(len(text) - len(part) + 1) if text[place:place + len(part)] == part]


def windows(word, most, text):
    return [(max(end - len(word) - most, 0), end) for end in range(len(text) + 1)]


def times_of_pieces(text, long):
    times = {}
    for place in range(len(text) - long + 1):
        piece = text[place:place + long]
        times[piece] = times.get(piece, 0) + 1
    return times


def number_shared(times, other_times):
    return sum([min(times[piece], other_times.get(piece, 0)) for piece in times])


# Stretches that meet or touch as one; those with a sign between them stay apart.
def joined(stretches):
    kept = []
    for begin, end in sorted(stretches):
        if len(kept) > 0 and begin <= kept[-1][1]:
            kept[-1] = (kept[-1][0], max(kept[-1][1], end))
        else:
            kept.append((begin, end))
    return tuple(kept)
