"""The one formula that a line of calls is about, and the calls that need it."""

from seenworlds.reading import MOST_BYTES, NotMade, TooMany, formula_of
from seenworlds.refusals import NO_FORMULA, NOT_MADE_AS_TOLD, OUT_OF_BOUNDS, TOO_MANY_PARTS


class Line:
    def __init__(self):
        self.formula = None

    def begin(self):
        self.formula = None
        return [0]

    def read(self, text):
        if len(text) > MOST_BYTES:
            return [OUT_OF_BOUNDS]
        # The old formula is gone even where the new one is refused.
        self.formula = None
        try:
            self.formula = formula_of(text)
        except NotMade:
            return [NOT_MADE_AS_TOLD]
        except TooMany:
            return [TOO_MANY_PARTS]
        return [len(self.formula.parts)]

    def text(self, most):
        if self.formula is None:
            return [NO_FORMULA]
        plain_bytes = self.formula.plain_bytes
        if most < len(plain_bytes):
            return [OUT_OF_BOUNDS]
        return [len(plain_bytes)] + plain_bytes
