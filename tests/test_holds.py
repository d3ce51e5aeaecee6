"""Promise 5: holds."""

import inspect
import itertools
import sys
import unittest

from tests.helper import BEGIN, ask, ask_holds, chain, doubled, frame, holds, read, spelled, text
from tests.plain import LETTERS, frames, holds_at, tree

# World 0 sees none, 1 itself alone, 2 just 0, 3 several and itself, 4 several but not itself.
ROWS = (0b00000, 0b00010, 0b00001, 0b01110, 0b00011)
# a holds at 1 and 3, b at 2 and 3.
MARKS = (0b00, 0b01, 0b10, 0b11, 0b00)

EVERY = (1 << 64) - 1
HIGHEST = 4294967295


class Signs(unittest.TestCase):
    def test_each_sign_at_each_world(self):
        for formula, expected in (
            ("a", [0, 1, 0, 1, 0]),
            ("b", [0, 0, 1, 1, 0]),
            ("c", [0, 0, 0, 0, 0]),
            ("0", [0, 0, 0, 0, 0]),
            ("1", [1, 1, 1, 1, 1]),
            ("~a", [1, 0, 1, 0, 1]),
            ("(a&b)", [0, 0, 0, 1, 0]),
            ("(a|b)", [0, 1, 1, 1, 0]),
            ("(a>b)", [1, 0, 1, 1, 1]),
            ("(a=b)", [1, 0, 0, 1, 1]),
            ("[]a", [1, 1, 0, 0, 0]),
            ("<>a", [0, 1, 0, 1, 1]),
            ("[]~a", [1, 0, 1, 0, 0]),
            ("<>~a", [0, 0, 1, 1, 1]),
            ("[]0", [1, 0, 0, 0, 0]),
            ("<>1", [0, 1, 1, 1, 1]),
            ("[]1", [1, 1, 1, 1, 1]),
            ("<>0", [0, 0, 0, 0, 0]),
            ("[](a|b)", [1, 1, 0, 1, 0]),
            ("<>(a&b)", [0, 0, 0, 1, 0]),
            ("[]<>1", [1, 1, 0, 1, 0]),
            ("<>[]0", [0, 0, 1, 0, 1]),
            ("<><>[]0", [0, 0, 0, 1, 0]),
            ("[][]a", [1, 1, 1, 0, 1]),
        ):
            self.assertEqual(ask_holds(formula, ROWS, MARKS), expected, formula)

    def test_blanks_do_not_matter(self):
        self.assertEqual(ask_holds(" ( [] a\t=\n<> b )\r", ROWS, MARKS), ask_holds("([]a=<>b)", ROWS, MARKS))

    def test_every_small_model(self):
        formulas = ("a", "~[]a", "<>a", "[][]a", "<>[]~a", "([]a>a)", "([]a><>a)", "([]a=[][]a)", "(a>[]<>a)",
                    "(<>a&~[]<>a)", "(<>(a|[]0)=[]<>(0>a))")
        for rows, met in frames(3):
            for letters in itertools.product((0, 1), repeat=len(rows)):
                for formula in formulas:
                    expected = [int(holds_at(tree(formula), world, rows, letters)) for world in range(len(rows))]
                    calls = [holds(len(rows), at, rows, letters) for at in range(len(rows))]
                    got = ask(read(formula), *calls)[1:]
                    self.assertEqual(got, [[truth] for truth in expected], (formula, rows, letters))

    def test_two_letters(self):
        formulas = ("(<>(a&~b)&[](a|b))", "([](a=b)>([]a=[]b))", "<>([]b|~<>(a>b))")
        for rows, met in frames(2):
            for letters in itertools.product(range(4), repeat=len(rows)):
                for formula in formulas:
                    expected = [int(holds_at(tree(formula), world, rows, letters)) for world in range(len(rows))]
                    self.assertEqual(ask_holds(formula, rows, letters), expected, (formula, rows, letters))


class Letters(unittest.TestCase):
    def test_each_letter_has_its_bit(self):
        for bit, letter in enumerate(LETTERS):
            calls = [read(letter)]
            for marks in (1 << bit, HIGHEST, 0, HIGHEST - (1 << bit)):
                calls.append(holds(1, 0, (0,), (marks,)))
            self.assertEqual(ask(*calls), [[1], [1], [1], [0], [0]])

    def test_upper_bits_do_not_matter(self):
        upper = HIGHEST - (1 << 26) + 1
        for formula in ("z", "a", "[]z", "<>~a", "((a|z)>[]b)"):
            for marks in ((0, 0, 0), (1, 2, 1 << 25), (3, 1 << 25, 1)):
                rows = (0b110, 0b100, 0b001)
                lifted = [number | upper for number in marks]
                self.assertEqual(ask_holds(formula, rows, lifted), ask_holds(formula, rows, marks))
        self.assertEqual(ask_holds("z", (0,), (upper,)), [0])

    def test_letters_come_behind_the_rows(self):
        self.assertEqual(ask(read("<>a"), [4, 2, 0, 4, 2, 0, 0, 1], [4, 2, 0, 4, 0, 1, 2, 0]), [[2], [1], [0]])


class Many(unittest.TestCase):
    def test_64_worlds(self):
        ring = [1 << (world + 1) % 64 for world in range(64)]
        last = [0] * 63 + [1]
        for formula, rows, expected in (
            ("a", ring, last),
            ("~a", ring, [1] * 63 + [0]),
            ("<>a", ring, [0] * 62 + [1, 0]),
            ("[]a", ring, [0] * 62 + [1, 0]),
            ("[][]a", ring, [0] * 61 + [1, 0, 0]),
            ("<>a", [EVERY] * 64, [1] * 64),
            ("[]a", [EVERY] * 64, [0] * 64),
            ("[]<>a", [EVERY] * 64, [1] * 64),
            ("[]a", [1 << 63] * 64, [1] * 64),
            ("(a=<>a)", [1 << world for world in range(64)], [1] * 64),
            ("[]0", [0] * 63 + [1 << 63], [1] * 63 + [0]),
        ):
            self.assertEqual(ask_holds(formula, rows, last), expected, formula)

    def test_the_last_of_the_worlds(self):
        for worlds in (1, 2, 31, 32, 33, 63, 64):
            rows = [0] * (worlds - 1) + [(1 << worlds) - 1]
            letters = [0] * (worlds - 1) + [1]
            got = ask(read("(a&(<>a&[](~a>[]0)))"), holds(worlds, worlds - 1, rows, letters), holds(worlds, worlds, rows, letters))
            self.assertEqual(got[1:], [[1], [-1]])

    def test_as_many_parts_as_may_be(self):
        rows = [(EVERY << 1 & EVERY) >> world << world for world in range(64)]
        letters = [world for world in range(64)]
        for formula in ("[]<>" * 5 + "a", "~" * 39 + "a", "~[]~<>" * 5 + "~a", chain("abcdefghijk", "="),
                        chain(["a", "b", "c", "d", "[]a", "[]b", "[]c", "<>a", "<>b", "<>c", "<>d"], ">"),
                        "~" * 33 + doubled(6), "[]" * 11 + "0", "<>" * 11 + "1"):
            parts = ask(read(formula))[0][0]
            self.assertGreater(parts, 0)
            self.assertEqual(ask_holds(formula, rows, letters), plain_held(formula, rows, letters), formula)

    def test_calls_do_not_lie_deep_within_one_another(self):
        self.addCleanup(sys.setrecursionlimit, sys.getrecursionlimit())
        sys.setrecursionlimit(len(inspect.stack()) + 80)
        for formula, expected in (("~" * 39 + "1", 0), ("(" * 39 + "a" + "&a)" * 39, 1), ("[]" * 10 + "a", 1)):
            self.assertEqual(ask(read(formula), holds(1, 0, (1,), (1,)))[1], [expected])


def plain_held(formula, rows, letters):
    """Like holds_at for every world, but each part once, as 64 worlds that see one another are too many for that."""
    known = {}

    def held(made):
        if made not in known:
            known[made] = [one_held(made, world) for world in range(len(rows))]
        return known[made]

    def one_held(made, world):
        if made[0] in ("[]", "<>"):
            seen = [held(made[1])[other] for other in range(len(rows)) if rows[world] >> other & 1]
            return int(all(seen)) if made[0] == "[]" else int(any(seen))
        inner = [(str(held(part)[world]),) for part in made[1:]]
        return int(holds_at((made[0], *inner), world, rows, letters))

    return held(tree(formula))


class Refused(unittest.TestCase):
    def both(self, call):
        """The answer with a formula, which must be that without one."""
        with_one = ask(read("a"), call)[1]
        self.assertEqual(ask(call), [with_one])
        return with_one

    def test_worlds_out_of_bounds(self):
        for worlds in (0, 65, 66, 128, HIGHEST):
            for at in (0, 1, 63, 64, HIGHEST):
                self.assertEqual(self.both(holds(worlds, at)), [-1])

    def test_at_is_no_world(self):
        for worlds in (1, 2, 63, 64):
            for at in (worlds, worlds + 1, 64, 65, HIGHEST):
                self.assertEqual(self.both(holds(worlds, at, [0] * worlds, [1] * worlds)), [-1])

    def test_a_bit_of_a_world_that_is_not(self):
        for worlds in (1, 2, 3, 31, 32, 33, 62, 63):
            for place in {0, worlds // 2, worlds - 1}:
                for bit in {worlds, 63}:
                    rows = [1] * worlds
                    rows[place] |= 1 << bit
                    self.assertEqual(self.both(holds(worlds, 0, rows, [1] * worlds)), [-1])

    def test_no_bit_of_the_letters_is_refused(self):
        for worlds in (1, 2, 63, 64):
            got = ask(read("a"), holds(worlds, worlds - 1, [0] * worlds, [HIGHEST] * worlds))
            self.assertEqual(got, [[1], [1]])

    def test_no_formula(self):
        call = holds(2, 1, (1, 3), (0, 1))
        self.assertEqual(ask(call), [[-2]])
        self.assertEqual(ask(read("a"), BEGIN, call), [[1], [0], [-2]])
        self.assertEqual(ask(read("a"), read("("), call), [[1], [-3], [-2]])
        self.assertEqual(ask(read("a"), read("~" * 40 + "a"), call), [[1], [-4], [-2]])
        self.assertEqual(ask(read("a"), read("a" * 513), call), [[1], [-1], [1]])

    def test_the_formula_stays(self):
        formula = "([]a>a)"
        got = ask(read(formula), holds(1, 0, (0,), (0,)), text(), holds(0, 0), text(), holds(1, 0, (1,), (0,)),
                  frame(1, (0,)), holds(1, 1, (1,), (0,)), holds(1, 0, (2,), (0,)), text(), holds(1, 0, (0,), (0,)))
        self.assertEqual(got, [[3], [0], spelled(formula), [-1], spelled(formula), [1], [28], [-1], [-1],
                               spelled(formula), [0]])


if __name__ == "__main__":
    unittest.main()
