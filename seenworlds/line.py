"""The one formula that a line of calls is about, and the calls that need it."""

from seenworlds.frames import ALL_CONDITIONS, are_worlds
from seenworlds.kinds import follows_from, may_hold
from seenworlds.models import worlds_where_held
from seenworlds.reading import MOST_BYTES, NotMade, TooMany, formula_beside, formula_of
from seenworlds.refusals import NO_FORMULA, NOT_MADE_AS_TOLD, OUT_OF_BOUNDS, TOO_MANY_PARTS


class Line:
    def __init__(self):
        self.formula = None

    def begin(self):
        self.formula = None
        return [0]

    def read(self, text):
        if len(text) > MOST_BYTES:
            return [OUT_OF_BOUNDS]
        # The old formula is gone even where the new one is refused.
        self.formula = None
        try:
            self.formula = formula_of(text)
        except NotMade:
            return [NOT_MADE_AS_TOLD]
        except TooMany:
            return [TOO_MANY_PARTS]
        return [len(self.formula.parts)]

    def text(self, most):
        if self.formula is None:
            return [NO_FORMULA]
        plain_bytes = self.formula.plain_bytes
        if most < len(plain_bytes):
            return [OUT_OF_BOUNDS]
        return [len(plain_bytes)] + plain_bytes

    def holds(self, worlds, at, rows_letters):
        rows = rows_letters[:worlds]
        letters = rows_letters[worlds:]
        if not are_worlds(worlds, rows) or at >= worlds:
            return [OUT_OF_BOUNDS]
        if self.formula is None:
            return [NO_FORMULA]
        held = worlds_where_held(self.formula.parts, rows, letters)
        return [(held[self.formula.place] >> at) & 1]

    def decide(self, conditions):
        if conditions > ALL_CONDITIONS:
            return [OUT_OF_BOUNDS]
        if self.formula is None:
            return [NO_FORMULA]
        return [1 if may_hold(self.formula, conditions) else 0]

    def follows(self, conditions, text):
        if len(text) > MOST_BYTES or conditions > ALL_CONDITIONS:
            return [OUT_OF_BOUNDS]
        if self.formula is None:
            return [NO_FORMULA]
        try:
            other = formula_beside(self.formula.parts, text)
        except NotMade:
            return [NOT_MADE_AS_TOLD]
        except TooMany:
            return [TOO_MANY_PARTS]
        return [1 if follows_from(self.formula, other, conditions) else 0]
