"""Builds the calls of a line, and takes the answers apart again."""

from seenworlds.formulas import answers

BEGIN = [0]
BLANKS = (" ", "\t", "\n", "\r")
CONDITIONS = range(32)


def read_bytes(text):
    return [1, len(text)] + list(text)


def read(text):
    return read_bytes(text.encode("ascii"))


def text(most=4294967295):
    return [2, most]


def frame(worlds, rows):
    return [3, worlds, len(rows)] + list(rows)


def holds(worlds, at, rows=(), letters=()):
    return [4, worlds, at, len(rows) + len(letters)] + list(rows) + list(letters)


def decide(conditions):
    return [5, conditions]


def follows_bytes(conditions, text):
    return [6, conditions, len(text)] + list(text)


def follows(conditions, text):
    return follows_bytes(conditions, text.encode("ascii"))


def split(given):
    """The answers of the calls, one list each, out of the list that was given back."""
    apart = []
    place = 0
    while place < len(given):
        size = given[place]
        apart.append(given[place + 1:place + 1 + size])
        place += 1 + size
    assert place == len(given), given
    return apart


def ask(*calls):
    numbers = [number for call in calls for number in call]
    assert len(calls) <= 60 and len(numbers) <= 16000, "more than is ever handed in"
    return split(answers(numbers))


def ask_read(formula):
    return ask(read(formula))[0][0]


def ask_frame(worlds, rows):
    answer = ask(frame(worlds, rows))[0]
    assert len(answer) == 1, answer
    return answer[0]


def ask_holds(formula, rows, letters):
    """Whether the formula holds, for each world of a model."""
    worlds = len(rows)
    # A line has 60 calls at most, and the formula must be read first in each.
    got = []
    for first in range(0, worlds, 59):
        places = range(first, min(worlds, first + 59))
        got += ask(read(formula), *[holds(worlds, at, rows, letters) for at in places])[1:]
    return [number for (number,) in got]


def ask_decide(formula):
    """The sets of conditions under which the formula may hold."""
    got = ask(read(formula), *[decide(conditions) for conditions in CONDITIONS])[1:]
    assert all(answer in ([0], [1]) for answer in got), (formula, got)
    return [conditions for conditions in CONDITIONS if got[conditions] == [1]]


def ask_follows(formula, other):
    """The sets of conditions under which the other formula follows."""
    got = []
    # In two lines, as one with the longest texts would have more than 16000 numbers.
    for half in (CONDITIONS[:16], CONDITIONS[16:]):
        got += ask(read(formula), *[follows(conditions, other) for conditions in half])[1:]
    assert all(answer in ([0], [1]) for answer in got), (formula, other, got)
    return [conditions for conditions in CONDITIONS if got[conditions] == [1]]


def having(*sets):
    """The sets of conditions that have all of one of these."""
    return [conditions for conditions in CONDITIONS if any(conditions & needed == needed for needed in sets)]


def spelled(formula):
    """What the call text answers for a formula without blanks."""
    return [len(formula)] + list(formula.encode("ascii"))


def chain(operands, sign="&"):
    """The operands in brackets, two and two, the last ones innermost."""
    whole = operands[-1]
    for operand in reversed(operands[:-1]):
        whole = f"({operand}{sign}{whole})"
    return whole


def doubled(times):
    """A formula of few parts and many bytes: 5, 13, 29 .. 509 of them."""
    whole = "a"
    for _ in range(times):
        whole = f"({whole}&{whole})"
    return whole
