"""Builds the calls of a line, and takes the answers apart again."""

from seenworlds.formulas import answers

BEGIN = [0]
BLANKS = (" ", "\t", "\n", "\r")


def read_bytes(text):
    return [1, len(text)] + list(text)


def read(text):
    return read_bytes(text.encode("ascii"))


def text(most=4294967295):
    return [2, most]


def frame(worlds, rows):
    return [3, worlds, len(rows)] + list(rows)


def split(given):
    """The answers of the calls, one list each, out of the list that was given back."""
    apart = []
    place = 0
    while place < len(given):
        size = given[place]
        apart.append(given[place + 1:place + 1 + size])
        place += 1 + size
    assert place == len(given), given
    return apart


def ask(*calls):
    return split(answers([number for call in calls for number in call]))


def ask_read(formula):
    return ask(read(formula))[0][0]


def ask_frame(worlds, rows):
    answer = ask(frame(worlds, rows))[0]
    assert len(answer) == 1, answer
    return answer[0]


def spelled(formula):
    """What the call text answers for a formula without blanks."""
    return [len(formula)] + list(formula.encode("ascii"))


def chain(operands, sign="&"):
    """The operands in brackets, two and two, the last ones innermost."""
    whole = operands[-1]
    for operand in reversed(operands[:-1]):
        whole = f"({operand}{sign}{whole})"
    return whole


def doubled(times):
    """A formula of few parts and many bytes: 5, 13, 29 .. 509 of them."""
    whole = "a"
    for _ in range(times):
        whole = f"({whole}&{whole})"
    return whole
