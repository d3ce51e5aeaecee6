"""Promise 2: read."""

import inspect
import itertools
import sys
import unittest

from tests.helper import BLANKS, ask, ask_read, chain, doubled, read, read_bytes, spelled, text

LETTERS = "abcdefghijklmnopqrstuvwxyz"

# Each way to make a formula, as signs, with the number of its parts.
MADE = (
    (["a"], 1),
    (["z"], 1),
    (["0"], 1),
    (["1"], 1),
    (["~", "a"], 2),
    (["[]", "a"], 2),
    (["<>", "a"], 2),
    (["(", "a", "&", "b", ")"], 3),
    (["(", "a", "|", "b", ")"], 3),
    (["(", "a", ">", "b", ")"], 3),
    (["(", "a", "=", "b", ")"], 3),
    (["~", "~", "1"], 3),
    (["[]", "[]", "<>", "<>", "~", "p"], 6),
    (["(", "<>", "a", ">", "<>", "b", ")"], 5),
    (["(", "a", ">", "<>", "<>", "b", ")"], 5),
    (["~", "(", "[]", "(", "a", "=", "0", ")", "|", "~", "b", ")"], 8),
)

NOT_MADE = (
    # nothing, or too early an end
    "", " ", "\t\n\r ", "~", "[]", "<>", "(", "(a", "(a&", "(a&b", "((a&b)", "(~", "([]a=", "[", "<", "a[", "(a<",
    # something behind
    "aa", "a b", "01", "a)", "a&", "a&b", "a~", "a[]", "~a b", "(a&b))", "(a&b)(a&b)", "(a&b)c", "a(", "[]a]",
    # put together wrongly
    "()", "(a)", "(~a)", "((a&b))", "(a&)", "(&a)", "(&)", "(a&b&c)", "(a b)", "(a~b)", "(a<>b)", "(a[]b)", "(a(&)b)",
    "(a&&b)", "(a&b]", "&", "|", ">", "=", ")", "]", ">a", "]a", ")a(", "&ab", "(a=>b)", "(a->b)", "(a==b)", "(a<b)",
    # [] and <> in pieces
    "[ ]a", "< >a", "[\t]a", "<\n>a", "[\r]a", "[a]", "<a>", "[[]]a", "[>a", "<]a", "][a", "><a", "[]]a", "<>>a", "<<>a",
    # no signs
    "A", "Z", "2", "9", "!a", "-a", "(a+b)", "(a^b)", "{a}", "a.", "a;", "`", "@", "/", "_", "true", "a'", "\"a\"",
)


class Made(unittest.TestCase):
    def check(self, signs, parts, formula):
        got = ask(read(formula), text())
        self.assertEqual(got, [[parts], spelled("".join(signs))], formula)

    def test_without_blanks(self):
        for signs, parts in MADE:
            self.check(signs, parts, "".join(signs))

    def test_one_blank_at_any_one_place(self):
        for signs, parts in MADE:
            for place, blank in itertools.product(range(len(signs) + 1), BLANKS):
                self.check(signs, parts, "".join(signs[:place]) + blank + "".join(signs[place:]))

    def test_many_blanks_at_every_place(self):
        for signs, parts in MADE:
            mixed = "".join(BLANKS)
            self.check(signs, parts, mixed + mixed.join(signs) + mixed)

    def test_every_letter(self):
        for letter in LETTERS:
            self.assertEqual(ask(read(letter), text()), [[1], spelled(letter)])


class NotMade(unittest.TestCase):
    def test_refused(self):
        for formula in NOT_MADE:
            self.assertEqual(ask(read("a"), read(formula), text()), [[1], [-3], [-2]], formula)

    def test_every_byte_by_itself_and_in_each_place(self):
        formulas = (LETTERS + "01").encode("ascii")
        blanks = "".join(BLANKS).encode("ascii")
        for byte in range(256):
            self.assertEqual(ask(read_bytes([byte])), [[1 if byte in formulas else -3]], byte)
            self.assertEqual(ask(read_bytes([byte, 97])), [[1 if byte in blanks else 2 if byte == 126 else -3]], byte)
            self.assertEqual(ask(read_bytes([97, byte])), [[1 if byte in blanks else -3]], byte)
            self.assertEqual(ask(read_bytes([40, 97, byte, 98, 41])), [[3 if byte in b"&|>=" else -3]], byte)

    def test_every_short_text_against_the_grammar(self):
        most = 5
        made = formulas_up_to(most)
        for size in range(most + 1):
            for letters in itertools.product("a0~[]<>(&)", repeat=size):
                formula = "".join(letters)
                expected = len(made[formula]) if formula in made else -3
                self.assertEqual(ask_read(formula), expected, formula)


def formulas_up_to(most):
    """The formulas over a, 0, & and >, of at most so many bytes, with the texts of their parts."""
    made = {"a": {"a"}, "0": {"0"}}
    for size in range(2, most + 1):
        shorter = list(made.items())
        for formula, parts in shorter:
            for ahead in ("~", "[]", "<>"):
                if len(ahead + formula) == size:
                    made[ahead + formula] = parts | {ahead + formula}
        for (left, left_parts), (right, right_parts) in itertools.product(shorter, shorter):
            if len(left) + len(right) + 3 == size:
                for sign in "&>":
                    whole = f"({left}{sign}{right})"
                    made[whole] = left_parts | right_parts | {whole}
    return made


class Parts(unittest.TestCase):
    def test_parts_made_alike_are_one(self):
        for formula, parts in (
            ("(a&a)", 2),
            ("(a&b)", 3),
            ("(0=0)", 2),
            ("(0=1)", 3),
            ("((a&b)=(a&b))", 4),
            ("((a&b)=( a\t&\nb ))", 4),
            ("((a&b)=(b&a))", 5),
            ("((a&b)=(a|b))", 5),
            ("([]a|<>a)", 4),
            ("([]a|[]a)", 3),
            ("(~a>~~a)", 4),
            ("((a|(b>c))&~(b>c))", 7),
            ("([](a=b)>([]a=[]b))", 8),
            (doubled(7), 8),
        ):
            self.assertEqual(ask_read(formula), parts, formula)


class Limits(unittest.TestCase):
    def test_512_bytes(self):
        for formula, parts in (
            ("a" + " " * 511, 1),
            (" " * 511 + "a", 1),
            ("~~~" + doubled(7), 11),
        ):
            self.assertEqual(len(formula), 512)
            self.assertEqual(ask_read(formula), parts)
        self.assertEqual(ask_read(" " * 512), -3)

    def test_more_than_512_bytes_do_nothing(self):
        for longer in ("a" + " " * 512, " " * 513, "~~~~" + doubled(7), "~" * 513, "~" * 600, "A" * 600):
            self.assertEqual(ask(read("(a&b)"), read(longer), text()), [[3], [-1], spelled("(a&b)")])
            self.assertEqual(ask(read(longer), text()), [[-1], [-2]])

    def test_40_parts(self):
        for formula in ("~" * 39 + "a", "~" * 36 + "((a&b)&a)", chain(["a"] * 40), "~" * 33 + doubled(6)):
            self.assertEqual(ask(read(formula), text()), [[40], spelled(formula)])

    def test_more_than_40_parts(self):
        for formula in ("~" * 40 + "a", "~" * 37 + "((a&b)&a)", chain(["a"] * 41), "~" * 34 + doubled(6)):
            self.assertEqual(ask(read("a"), read(formula), text()), [[1], [-4], [-2]], formula)

    def test_11_atoms(self):
        for formula, parts in (
            (chain(LETTERS[:11]), 21),
            (chain(LETTERS[15:]), 21),
            (chain(LETTERS[:11] + LETTERS[:8]), 29),
            (chain(LETTERS[:11] + "01"), 25),
            ("[]" * 10 + "a", 11),
            ("<>" * 10 + "a", 11),
            ("[]" * 11 + "0", 12),
            ("<>" * 11 + "1", 12),
            ("[]<>" * 5 + "a", 11),
            ("~[]~<>" * 5 + "~a", 22),
            (chain(["a", "b", "c", "d", "[]a", "[]b", "[]c", "<>a", "<>b", "<>c", "<>d"]), 21),
        ):
            self.assertEqual(ask(read(formula), text()), [[parts], spelled(formula)], formula)

    def test_more_than_11_atoms(self):
        for formula in (
            chain(LETTERS[:12]),
            "[]" * 11 + "a",
            "<>" * 11 + "a",
            "[]" * 12 + "0",
            "<>" * 12 + "1",
            "[]<>" * 5 + "(a&b)",
            chain(["a", "b", "c", "d", "[]a", "[]b", "[]c", "[]d", "<>a", "<>b", "<>c", "<>d"]),
        ):
            self.assertEqual(ask(read("a"), read(formula), text()), [[1], [-4], [-2]], formula)

    def test_not_made_as_told_comes_before_too_many_parts(self):
        for formula in ("~" * 60, "~" * 60 + "a)", "~" * 60 + "A", "(" + "~" * 60 + "a", chain(LETTERS) + "a",
                        "[]" * 12 + "[ ]a", "(" + chain(LETTERS) + ")"):
            self.assertEqual(ask(read("a"), read(formula), text()), [[1], [-3], [-2]], formula)

    def test_a_formula_is_followed_by_the_next(self):
        self.assertEqual(ask(read("a"), read("~b"), text()), [[1], [2], spelled("~b")])
        self.assertEqual(ask(read("A"), read("~b"), text()), [[-3], [2], spelled("~b")])
        self.assertEqual(ask(read("~" * 40 + "a"), read("~b"), text()), [[-4], [2], spelled("~b")])


class Depth(unittest.TestCase):
    def setUp(self):
        # Whoever goes down by a call a level doesn't come far.
        self.addCleanup(sys.setrecursionlimit, sys.getrecursionlimit())
        sys.setrecursionlimit(len(inspect.stack()) + 80)

    def test_as_deep_as_512_bytes_allow(self):
        self.assertEqual(ask_read("~" * 511 + "a"), -4)
        self.assertEqual(ask_read("[]" * 255 + "a"), -4)
        self.assertEqual(ask_read("<>" * 255 + "a"), -4)
        self.assertEqual(ask_read(chain(["a"] * 128)), -4)
        self.assertEqual(ask_read("(" * 127 + "a" + "&a)" * 127), -4)

    def test_deep_and_not_made_as_told(self):
        for formula in ("~" * 512, "(" * 512, "[]" * 256, "<>" * 256, "(" * 511 + "a", "(" * 255 + "a" + ")" * 255,
                        "(a&" * 170 + "a", "(" * 128 + "a" + "&a)" * 127):
            self.assertEqual(ask_read(formula), -3)

    def test_the_deepest_that_are_read(self):
        self.assertEqual(ask_read("~" * 39 + "1"), 40)
        self.assertEqual(ask_read("(" * 39 + "a" + "&a)" * 39), 40)


if __name__ == "__main__":
    unittest.main()
