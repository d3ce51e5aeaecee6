"""Promise 7: follows."""

import inspect
import itertools
import sys
import unittest

from tests.helper import BEGIN, BLANKS, CONDITIONS, ask, ask_decide, ask_follows, ask_read, chain, decide, doubled
from tests.helper import follows, follows_bytes, having, read, spelled, text
from tests.plain import LETTERS, atoms, found, numbered

ALL = list(CONDITIONS)


class Follows(unittest.TestCase):
    def test_under_all_conditions_or_under_none(self):
        for formula, other, there, back in (
            ("a", "a", ALL, ALL),
            ("a", "b", [], []),
            ("(a&b)", "a", ALL, []),
            ("a", "(b|a)", ALL, []),
            ("(a&b)", "(b&a)", ALL, ALL),
            ("(a>b)", "(~b>~a)", ALL, ALL),
            ("(a=b)", "(a>b)", ALL, []),
            ("a", "~a", [], []),
            ("a", "~~a", ALL, ALL),
            ("0", "a", ALL, []),
            ("a", "1", ALL, []),
            ("0", "1", ALL, []),
            ("1", "1", ALL, ALL),
            ("0", "0", ALL, ALL),
            ("[]a", "~<>~a", ALL, ALL),
            ("<>a", "~[]~a", ALL, ALL),
            ("([](a>b)&[]a)", "[]b", ALL, []),
            ("[](a&b)", "([]a&[]b)", ALL, ALL),
            ("<>(a|b)", "(<>a|<>b)", ALL, ALL),
            ("<>(a&b)", "(<>a&<>b)", ALL, []),
            ("([]a|[]b)", "[](a|b)", ALL, []),
            ("([]a&<>b)", "<>(a&b)", ALL, []),
        ):
            self.assertEqual(ask_follows(formula, other), there, (formula, other))
            self.assertEqual(ask_follows(other, formula), back, (other, formula))

    def test_under_some_conditions(self):
        reflexive = having(2, 1 + 4 + 8, 1 + 8 + 16)
        for formula, other, there, back in (
            ("[]a", "<>a", having(1, 2), []),
            ("[]a", "a", reflexive, []),
            ("a", "<>a", reflexive, []),
            ("[]a", "[][]a", having(4, 2 + 16, 8 + 16), having(2, 16, 4 + 8)),
            ("<>a", "<><>a", having(2, 16, 4 + 8), having(4, 2 + 16, 8 + 16)),
            ("a", "[]<>a", having(8, 2 + 16), []),
            ("<>a", "[]<>a", having(16, 4 + 8), having(2, 1 + 4, 1 + 8 + 16)),
            ("<>[]a", "[]<>a", having(8, 16), []),
            ("1", "<>1", having(1, 2), ALL),
            ("[]0", "(a&~a)", having(1, 2), ALL),
            ("<>1", "<><>1", having(1, 2, 8, 16), ALL),
        ):
            self.assertEqual(ask_follows(formula, other), there, (formula, other))
            self.assertEqual(ask_follows(other, formula), back, (other, formula))

    def test_what_stands_ahead_of_a_letter(self):
        # None of these needs more than three worlds to be told apart, so that a plain search must agree.
        kinds = ["".join(signs) + "a" for size in range(3) for signs in itertools.product(("~", "[]", "<>"), repeat=size)]
        for one, other in itertools.product(kinds, kinds):
            apart = found(f"({one}&~{other})", 3)
            expected = [conditions for conditions in ALL if conditions not in apart]
            self.assertEqual(ask_follows(one, other), expected, (one, other))

    def test_as_decide_has_it(self):
        for number in range(10 ** 5, 10 ** 5 + 200 * 7919, 7919):
            one, other = numbered(number, "ab"), numbered(number // 5, "ab")
            both = f"({one}&~{other})"
            if len(atoms(both)) <= 7 and ask_read(both) > 0:
                apart = ask_decide(both)
                expected = [conditions for conditions in ALL if conditions not in apart]
                self.assertEqual(ask_follows(one, other), expected, (one, other))

    def test_texts_with_blanks(self):
        for formula, signs, expected in (
            ("[]a", ["<>", "a"], having(1, 2)),
            ("([]a & b)", ["(", "~", "[]", "a", "|", "b", ")"], ALL),
            ("a", ["(", "a", ">", "b", ")"], []),
        ):
            for blank in BLANKS + ("".join(BLANKS),):
                self.assertEqual(ask_follows(formula, blank + blank.join(signs) + blank), expected)
        self.assertEqual(ask_follows("a", "a" + " " * 511), ALL)
        self.assertEqual(ask_follows("a" + " " * 511, " " * 511 + "a"), ALL)

    def test_seven_atoms_together(self):
        self.assertEqual(ask_follows("(([]a&[]b)&<>c)", "<>(a&(b&c))"), ALL)
        self.assertEqual(ask_follows("<>(a&(b&c))", "(([]a&[]b)&<>c)"), [])
        self.assertEqual(ask_follows("[]a", "[][][][][][]a"), having(4, 2 + 16, 8 + 16))
        self.assertEqual(ask_follows("[][][][][][]a", "[]a"), ask_follows("[][]a", "[]a"))
        self.assertEqual(ask_follows("[][][][][]a", "[][][][][][]a"), having(4, 16))


class Refused(unittest.TestCase):
    LONG = "a" * 513

    def test_too_many_bytes_or_no_such_conditions(self):
        for size in (513, 514, 599, 600):
            self.assertEqual(ask(read("a"), follows(0, "a" + " " * (size - 1))), [[1], [-1]])
            self.assertEqual(ask(read("a"), follows_bytes(31, [0] * size)), [[1], [-1]])
        for conditions in (32, 33, 64, 4294967295):
            for other in ("a", "", "(", "~" * 40 + "a", self.LONG):
                self.assertEqual(ask(read("a"), follows(conditions, other)), [[1], [-1]])

    def test_that_comes_ahead_of_no_formula(self):
        for call in (follows(32, "a"), follows(4294967295, "("), follows(0, self.LONG), follows(32, self.LONG)):
            self.assertEqual(ask(call), [[-1]])

    def test_no_formula(self):
        for conditions in ALL:
            self.assertEqual(ask(follows(conditions, "a")), [[-2]])
        self.assertEqual(ask(read("a"), BEGIN, follows(0, "a")), [[1], [0], [-2]])
        self.assertEqual(ask(read("a"), read("A"), follows(0, "a")), [[1], [-3], [-2]])

    def test_that_comes_ahead_of_what_the_text_is(self):
        for other in ("", "(", "A", "~" * 40 + "a", "[]" * 12 + "a", " " * 512):
            self.assertEqual(ask(follows(0, other)), [[-2]])

    def test_not_made_as_told(self):
        for other in ("", " ", "(", "A", "a b", "(a)", "[ ]a", "< >a", "(a&b", "a)", "(a<b)", "~", "[]", " " * 512):
            for conditions in (0, 31):
                self.assertEqual(ask(read("a"), follows(conditions, other)), [[1], [-3]], other)
        for byte in (0, 33, 127, 128, 255):
            self.assertEqual(ask(read("a"), follows_bytes(0, [97, byte])), [[1], [-3]])

    def test_that_comes_ahead_of_too_many_parts(self):
        for other in ("~" * 60, "~" * 60 + "a)", "(" + "~" * 60 + "a", "[]" * 12 + "[ ]a", chain(LETTERS) + "a"):
            self.assertEqual(ask(read("a"), follows(0, other)), [[1], [-3]], other)


class TooMany(unittest.TestCase):
    def check(self, formula, other, expected):
        self.assertGreater(ask_read(formula), 0)
        self.assertEqual(ask(read(formula), follows(0, other))[1], [expected], (formula, other))

    def test_by_itself(self):
        self.check("a", "~" * 40 + "a", -4)
        self.check("a", "[]" * 11 + "a", -4)
        self.check("a", chain(LETTERS), -4)

    def test_40_parts_together(self):
        self.check("~" * 19 + "a", "~" * 19 + "b", 0)
        self.check("~" * 38 + "a", "b", 0)
        self.check("b", "~" * 38 + "a", 0)
        self.check("~" * 38 + "0", "1", 1)

    def test_more_than_40_parts_together(self):
        for formula, other in (
            ("~" * 19 + "a", "~" * 20 + "b"),
            ("~" * 20 + "a", "~" * 19 + "b"),
            ("~" * 39 + "a", "b"),
            ("b", "~" * 39 + "a"),
            ("~" * 39 + "a", "~" * 40 + "a"),
            ("~" * 39 + "a", "(a&a)"),
            ("~" * 39 + "0", "1"),
        ):
            self.check(formula, other, -4)

    def test_parts_that_are_alike_are_counted_once(self):
        self.check("~" * 39 + "a", "~" * 39 + "a", 1)
        self.check("~" * 39 + "a", "~" * 38 + "a", 0)
        self.check("~" * 39 + "a", "a", 0)
        self.check("~" * 38 + "a", "~" * 39 + "a", 0)
        self.check("~" * 38 + "a", "a", 1)
        self.check("~" * 33 + doubled(6), doubled(6), 0)
        self.check("~" * 33 + doubled(6), "~ " * 33 + doubled(6), 1)

    def test_letters_and_their_like_together(self):
        # At the bound itself there are more than decide and follows are asked of, so only that it is no refusal.
        for formula, other in (
            (chain("abcdef"), chain("fghijk")),
            (chain("abcdef"), chain("abcdefghijk")),
            ("[]" * 5 + "a", "<>" * 5 + "a"),
            ("[]" * 5 + "0", "<>" * 6 + "1"),
        ):
            self.assertGreaterEqual(ask(read(formula), follows(0, other))[1][0], 0, (formula, other))
        for formula, other in (
            (chain("abcdef"), chain("ghijkl")),
            (chain("abcdefghijk"), "l"),
            ("l", chain("abcdefghijk")),
            ("[]" * 5 + "a", "<>" * 6 + "a"),
            ("[]" * 6 + "0", "<>" * 6 + "1"),
            ("[]" * 5 + "a", "[]" * 5 + "b"),
            (chain("abcdefghijk"), "[]a"),
        ):
            self.check(formula, other, -4)

    def test_alike_letters_and_their_like_are_counted_once(self):
        self.check("[]" * 6 + "a", "[]" * 5 + "a", 0)
        self.check("[]" * 6 + "a", " [] " * 6 + "a", 1)
        self.check(chain(["a", "[]a", "<>a"]), chain(["<>a", "[]a", "a"]), 1)


class Stays(unittest.TestCase):
    def test_the_formula_that_was_read(self):
        formula = "([]a&~a)"
        for call, answer in (
            (follows(0, "b"), 0),
            (follows(0, "[]a"), 1),
            (follows(0, "~a"), 1),
            (follows(0, formula), 1),
            (follows(0, "<>b"), 0),
            (follows(2, "0"), 1),
            (follows(32, "b"), -1),
            (follows(0, "a" * 513), -1),
            (follows(0, "("), -3),
            (follows(0, "(a&b)c"), -3),
            (follows(0, "~" * 40 + "a"), -4),
            (follows(0, "[]" * 12 + "a"), -4),
        ):
            got = ask(read(formula), call, text(), decide(0), decide(2), call, text(), decide(0), decide(2))
            behind = [[answer], spelled(formula), [1], [0]]
            self.assertEqual(got, [[4]] + behind + behind)

    def test_parts_of_others_do_not_count_later(self):
        # Each by itself fits, and none stays.
        others = ["~" * 20 + letter for letter in "bcdefg"]
        got = ask(read("~" * 18 + "a"), *[follows(0, other) for other in others])
        self.assertEqual(got, [[19]] + [[0]] * 6)
        got = ask(read("a"), follows(0, "~" * 38 + "b"), follows(0, "(a|" + "~" * 36 + "b)"), follows(0, "~" * 39 + "b"))
        self.assertEqual(got, [[1], [0], [1], [-4]])

    def test_no_formula_stays_none(self):
        self.assertEqual(ask(follows(0, "a"), text(), decide(0), follows(0, "a")), [[-2]] * 4)

    def test_what_is_read_later_is_asked(self):
        got = ask(read("a"), follows(0, "a"), read("b"), follows(0, "a"), follows(0, "b"), read("x" * 513), follows(0, "b"))
        self.assertEqual(got, [[1], [1], [1], [0], [1], [-1], [1]])


class Depth(unittest.TestCase):
    def test_calls_do_not_lie_deep_within_one_another(self):
        self.addCleanup(sys.setrecursionlimit, sys.getrecursionlimit())
        sys.setrecursionlimit(len(inspect.stack()) + 80)
        for other, expected in (
            ("~" * 511 + "a", -4),
            ("[]" * 255 + "a", -4),
            ("(" * 127 + "a" + "&a)" * 127, -4),
            ("~" * 512, -3),
            ("(" * 512, -3),
            ("[]" * 256, -3),
            ("(" * 39 + "a" + "&a)" * 39, 1),
            ("~" * 38 + "a", 1),
        ):
            self.assertEqual(ask(read("a"), follows(0, other)), [[1], [expected]])


if __name__ == "__main__":
    unittest.main()
