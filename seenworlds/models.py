"""At which worlds of a model the parts of a formula hold."""

from seenworlds.joining import joined
from seenworlds.reading import BOX, DIAMOND, FIRST_LETTER, is_letter


def bits_of(truths):
    return sum([1 << world for world, truth in enumerate(truths) if truth])


def letter_holds(letter, letters):
    bit = letter - FIRST_LETTER
    return bits_of([(number >> bit) & 1 for number in letters])


def one_seen(inner, rows):
    return bits_of([row & inner for row in rows])


def all_seen(inner, rows):
    return bits_of([(row | inner) == inner for row in rows])


# For each part, in order, the worlds where it holds, a bit each.
def worlds_where_held(parts, rows, letters):
    every = (1 << len(rows)) - 1
    held = []
    for part in parts:
        if is_letter(part[0]):
            held.append(letter_holds(part[0], letters))
        elif part[0] == BOX:
            held.append(all_seen(held[part[1]], rows))
        elif part[0] == DIAMOND:
            held.append(one_seen(held[part[1]], rows))
        else:
            held.append(joined(part, held, every))
    return held
