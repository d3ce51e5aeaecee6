"""The numbers that are answered where a call is refused."""

OUT_OF_BOUNDS = -1
NO_FORMULA = -2
NOT_MADE_AS_TOLD = -3
TOO_MANY_PARTS = -4
