"""Worlds and who sees whom: which conditions the rows of a model meet."""

from seenworlds.refusals import OUT_OF_BOUNDS

MOST_WORLDS = 64

SEES_ONE = 1
SEES_ITSELF = 2
SEES_ON = 4
SEES_BACK = 8
SEE_EACH_OTHER = 16
ALL_CONDITIONS = 31


def are_worlds(worlds, rows):
    if worlds < 1 or worlds > MOST_WORLDS:
        return False
    return all([(row >> worlds) == 0 for row in rows])


def seen_from(row):
    return [world for world in range(row.bit_length()) if (row >> world) & 1]


def is_within(row, wider):
    return (row | wider) == wider


def each_sees_one(rows):
    return all([row != 0 for row in rows])


def each_sees_itself(rows):
    return all([(row >> world) & 1 for world, row in enumerate(rows)])


def each_sees_on(rows):
    for row in rows:
        if not all([is_within(rows[seen], row) for seen in seen_from(row)]):
            return False
    return True


def each_sees_back(rows):
    for world, row in enumerate(rows):
        if not all([(rows[seen] >> world) & 1 for seen in seen_from(row)]):
            return False
    return True


def seen_see_each_other(rows):
    for row in rows:
        if not all([is_within(row, rows[seen]) for seen in seen_from(row)]):
            return False
    return True


def conditions_met(rows):
    met = 0
    if each_sees_one(rows):
        met = met + SEES_ONE
    if each_sees_itself(rows):
        met = met + SEES_ITSELF
    if each_sees_on(rows):
        met = met + SEES_ON
    if each_sees_back(rows):
        met = met + SEES_BACK
    if seen_see_each_other(rows):
        met = met + SEE_EACH_OTHER
    return met


def frame(worlds, rows):
    if not are_worlds(worlds, rows):
        return [OUT_OF_BOUNDS]
    return [conditions_met(rows)]
