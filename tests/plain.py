"""What the document says of models, done word by word and world by world, to hold the program against."""

import functools
import itertools

LETTERS = "abcdefghijklmnopqrstuvwxyz"


def told(rows):
    """The conditions that the rows meet, word by word as the document tells them."""
    worlds = range(len(rows))
    pairs = list(itertools.product(worlds, worlds))
    threes = list(itertools.product(worlds, worlds, worlds))

    def sees(one, other):
        return rows[one] & (1 << other) != 0

    met = 0
    if all(any(sees(one, other) for other in worlds) for one in worlds):
        met += 1
    if all(sees(one, one) for one in worlds):
        met += 2
    if all(sees(one, third) for one, other, third in threes if sees(one, other) and sees(other, third)):
        met += 4
    if all(sees(other, one) for one, other in pairs if sees(one, other)):
        met += 8
    if all(sees(two, three) for one, two, three in threes if sees(one, two) and sees(one, three)):
        met += 16
    return met


def tree(formula):
    """A formula without blanks, taken apart: its sign, then what it's made of."""
    made, rest = tree_ahead(formula)
    assert rest == "", formula
    return made


def tree_ahead(text):
    for ahead in ("~", "[]", "<>"):
        if text.startswith(ahead):
            inner, rest = tree_ahead(text[len(ahead):])
            return (ahead, inner), rest
    if text[0] != "(":
        return (text[0],), text[1:]
    left, rest = tree_ahead(text[1:])
    right, behind = tree_ahead(rest[1:])
    assert behind[0] == ")", text
    return (rest[0], left, right), behind[1:]


def holds_at(made, world, rows, letters):
    """Whether what tree gave holds at a world."""
    sign = made[0]
    if sign in LETTERS:
        return letters[world] >> LETTERS.index(sign) & 1 == 1
    if sign in "01":
        return sign == "1"
    if sign in ("[]", "<>"):
        seen = [other for other in range(len(rows)) if rows[world] >> other & 1]
        every_or_one = all if sign == "[]" else any
        return every_or_one(holds_at(made[1], other, rows, letters) for other in seen)
    inner = [holds_at(part, world, rows, letters) for part in made[1:]]
    if sign == "~":
        return not inner[0]
    left, right = inner
    return {"&": left and right, "|": left or right, ">": right or not left, "=": left == right}[sign]


@functools.cache
def frames(most):
    """The frames of at most so many worlds, with the conditions they meet; of those that differ in the worlds'
    numbers alone just one."""
    kept = []
    known = set()
    for worlds in range(1, most + 1):
        for rows in itertools.product(range(1 << worlds), repeat=worlds):
            if rows not in known:
                known.update(renumbered(rows, order) for order in itertools.permutations(range(worlds)))
                kept.append((rows, told(rows)))
    return kept


def renumbered(rows, order):
    moved = [0] * len(rows)
    for world, row in enumerate(rows):
        moved[order[world]] = sum(1 << order[seen] for seen in range(len(rows)) if row >> seen & 1)
    return tuple(moved)


def found(formula, most):
    """The sets of conditions under which the formula holds at a world of a model of at most so many worlds."""
    made = tree(formula)
    used = [LETTERS.index(letter) for letter in sorted(set(formula) & set(LETTERS))]
    choices = [sum(bits) for bits in itertools.product(*[(0, 1 << bit) for bit in used])]
    met_by_models = set()
    for rows, met in frames(most):
        if met not in met_by_models and holds_somewhere(made, rows, choices):
            met_by_models.add(met)
    return [conditions for conditions in range(32) if any(conditions & ~met == 0 for met in met_by_models)]


def holds_somewhere(made, rows, choices):
    worlds = range(len(rows))
    return any(
        holds_at(made, world, rows, letters)
        for letters in itertools.product(choices, repeat=len(rows))
        for world in worlds
    )


def numbered(number, letters):
    """Formulas in a row without end, one for each number; those of near numbers don't look alike."""
    ahead = ("~", "[]", "<>", "[]", "<>")
    if number < len(letters):
        return letters[number]
    rest, way = divmod(number - len(letters), len(ahead) + 4)
    if way < len(ahead):
        return ahead[way] + numbered(rest, letters)
    # Every second bit goes to the left, the others to the right.
    left = int("0" + bin(rest)[2:][::-1][0::2][::-1], 2)
    right = int("0" + bin(rest)[2:][::-1][1::2][::-1], 2)
    return f"({numbered(left, letters)}{'&|>='[way - len(ahead)]}{numbered(right, letters)})"


def atoms(formula):
    """The letters, [] formulas and <> formulas among the parts."""
    kept = set()
    begun = [tree(formula)]
    while begun:
        made = begun.pop()
        if made[0] in ("[]", "<>") or made[0] in LETTERS:
            kept.add(made)
        begun.extend(made[1:])
    return kept
