"""Promise 6: decide."""

import inspect
import itertools
import sys
import time
import unittest

from tests.helper import BEGIN, CONDITIONS, ask, ask_decide, ask_frame, ask_holds, ask_read, chain, decide, doubled
from tests.helper import frame, having, read, spelled, text
from tests.plain import atoms, found, numbered

ALL = list(CONDITIONS)


def lacking(*sets):
    return [conditions for conditions in ALL if conditions not in having(*sets)]


# Formulas that hold at every world wherever one of the sets of conditions is met, and else not at every world.
TELLING = (
    ("([]a><>a)", (1, 2)),
    ("([]a>a)", (2, 1 + 4 + 8, 1 + 8 + 16)),
    ("(a><>a)", (2, 1 + 4 + 8, 1 + 8 + 16)),
    ("([]a>[][]a)", (4, 2 + 16, 8 + 16)),
    ("(<><>a><>a)", (4, 2 + 16, 8 + 16)),
    ("(a>[]<>a)", (8, 2 + 16)),
    ("(<>[]a>a)", (8, 2 + 16)),
    ("(<>a>[]<>a)", (16, 4 + 8)),
    ("(<>[]a>[]a)", (16, 4 + 8)),
    ("[]([]a>a)", (2, 16, 4 + 8)),
    ("[](a>[]<>a)", (8, 16)),
    ("[]([]a>[][]a)", (4, 16)),
    ("[](<>a>[]<>a)", (16, 4 + 8)),
    ("([][]a>[]a)", (2, 16, 4 + 8)),
    ("(<>[]a>[]<>a)", (8, 16)),
    ("([]a=[][]a)", (2 + 4, 4 + 16, 2 + 16, 4 + 8, 8 + 16)),
    ("<>1", (1, 2)),
    ("[]<>1", (1, 2, 8, 16)),
)


class Telling(unittest.TestCase):
    def test_with_not_ahead(self):
        for formula, needed in TELLING:
            self.assertEqual(ask_decide("~" + formula), lacking(*needed), formula)

    def test_as_they_are(self):
        for formula, needed in TELLING:
            self.assertEqual(ask_decide(formula), ALL, formula)

    def test_at_a_world_that_is_seen(self):
        for formula in ("([]a><>a)", "([]a>a)", "(a>[]<>a)", "(<>a>[]<>a)"):
            seen = f"<>~{formula}"
            self.assertEqual(ask_decide(seen), found(seen, 3), formula)

    def test_each_in_one_line(self):
        formula = "([]a>a)"
        got = ask(read(formula), *[decide(conditions) for conditions in ALL], read("~" + formula),
                  *[decide(conditions) for conditions in ALL[:26]])
        needed = TELLING[1][1]
        expected = [[3]] + [[1]] * 32 + [[4]] + [[int(conditions in lacking(*needed))] for conditions in ALL[:26]]
        self.assertEqual(got, expected)


class NoLetters(unittest.TestCase):
    def test_always_and_never(self):
        for formula in ("1", "~0", "[]1", "<>1", "(0>0)", "(1=1)", "(0|1)", "~<>0", "[]<>1", "<><><>1", "~[]0"):
            self.assertEqual(ask_decide(formula), ALL, formula)
        for formula in ("0", "~1", "~[]1", "<>0", "(1>0)", "(1=0)", "(0&1)", "<><>0", "([]0&<>1)", "(<>[]0&[]<>1)"):
            self.assertEqual(ask_decide(formula), [], formula)

    def test_worlds_that_see_none(self):
        dead_end = lacking(1, 2)
        self.assertEqual(ask_decide("[]0"), dead_end)
        self.assertEqual(ask_decide("~<>1"), dead_end)
        self.assertEqual(ask_decide("[]<>0"), dead_end)
        self.assertEqual(ask_decide("[][]0"), dead_end)
        for formula in ("<>[]0", "(<>1&[][]0)", "<><>[]0", "(<><>1&[][][]0)", "(<>[]0&<><>[]0)"):
            self.assertEqual(ask_decide(formula), [0, 4], formula)
        self.assertEqual(ask_decide("(<>[]0&<><>1)"), [0, 4])


class Plain(unittest.TestCase):
    """The answers against a search through all models of at most three worlds."""

    def test_what_stands_ahead_of_a_letter(self):
        # None of these needs more than three worlds, so that both must agree.
        kinds = ["".join(signs) + "a" for size in range(3) for signs in itertools.product(("~", "[]", "<>"), repeat=size)]
        for one, other in itertools.product(kinds, kinds):
            formula = f"({one}&{other})"
            self.assertEqual(ask_decide(formula), found(formula, 3), formula)

    def test_one_step_and_two_searches(self):
        # A world, and one for each [] or <> formula, that is all that is needed where none lies in another.
        inner = ("a", "~a", "(a&b)", "(a=b)", "(b>a)")
        for first, second in itertools.product(inner, inner):
            for formula in (f"(<>{first}&[]{second})", f"(~{first}&(<>{first}=[]{second}))", f"(<>{first}&(b&~<>{second}))"):
                self.assertEqual(ask_decide(formula), found(formula, 3), formula)

    def test_many_formulas(self):
        some_but_not_all = 0
        for number in range(10 ** 11, 10 ** 11 + 300 * 7919, 7919):
            formula = numbered(number, "a0" if number % 3 else "ab")
            if len(atoms(formula)) <= 7 and ask_read(formula) > 0:
                self.check(formula)
                some_but_not_all += 0 < len(ask_decide(formula)) < 32
        self.assertGreater(some_but_not_all, 10)

    def test_two_formulas_at_once(self):
        for number in range(10 ** 6, 10 ** 6 + 250 * 7919, 7919):
            formula = f"({numbered(number, 'a')}&~{numbered(number // 3, 'a')})"
            if len(atoms(formula)) <= 7 and ask_read(formula) > 0:
                self.check(formula)

    def check(self, formula):
        may = ask_decide(formula)
        self.assertLessEqual(set(found(formula, 3)), set(may), formula)
        # What may hold under some conditions may hold under fewer.
        for conditions in may:
            for bit in (1, 2, 4, 8, 16):
                self.assertIn(conditions & ~bit, may, formula)
        # Either a formula or its opposite may hold, if not both.
        opposite = set(ask_decide("~" + formula))
        self.assertEqual(opposite | set(may), set(ALL), formula)


class Worlds(unittest.TestCase):
    """Formulas that no model of few worlds meets."""

    def check(self, formula, rows, letters, conditions):
        """The formula holds at world 0 of a model with these conditions, and in none of three worlds."""
        self.assertLessEqual(len(atoms(formula)), 7)
        self.assertEqual(ask_holds(formula, rows, letters)[0], 1, formula)
        self.assertEqual(ask_frame(len(rows), rows) & conditions, conditions)
        self.assertNotIn(conditions, found(formula, 3))
        self.assertIn(conditions, ask_decide(formula))

    def test_a_way_that_ends_behind_seven_worlds(self):
        formula = "(~[][][][][][]0&[][][][][][][]0)"
        next_alone = [1 << world + 1 for world in range(6)] + [0]
        all_behind = [127 >> world + 1 << world + 1 for world in range(7)]
        self.check(formula, next_alone, [0] * 7, 0)
        self.check(formula, all_behind, [0] * 7, 4)
        self.assertEqual(ask_decide(formula), [0, 4])

    def test_seven_worlds_beside_one_another(self):
        formula = "(~[][][][][][]a&[][][][][]a)"
        beside = [(7 << world >> 1) & 127 for world in range(7)]
        upward = [(3 << world) & 127 for world in range(7)]
        letters = [1] * 6 + [0]
        self.check(formula, beside, letters, 2 + 8)
        self.check(formula, beside, letters, 1 + 2 + 8)
        self.check(formula, upward, letters, 2)
        self.check(formula, upward, letters, 1 + 2)
        self.assertEqual(ask_decide(formula), lacking(4, 16))

    def test_a_world_for_each_choice_of_letters(self):
        formula = "((<>(a&b)&<>(a&~b))&(<>(~a&b)&<>(~a&~b)))"
        self.check(formula, [15] * 4, (0, 1, 2, 3), 31)
        self.assertEqual(ask_decide(formula), ALL)
        self.assertEqual(ask_decide(f"({formula}&~<>(a&b))"), [])

    def test_a_world_outside_of_those_it_sees(self):
        formula = "((<>(a&b)&<>(a&~b))&([]a&<><>~a))"
        self.check(formula, (0b0110, 0b1110, 0b1110, 0b1110), (0, 3, 1, 0), 1 + 16)
        self.assertEqual(ask_decide(formula), lacking(4, 2 + 16, 8 + 16))

    def test_two_that_one_sees_can_not_lie_apart(self):
        # One with b that sees a alone, and one without b that doesn't; where they see each other they see the same.
        formula = "(([]a&(~[]b&~[]~b))&[](b=[]a))"
        self.assertEqual(ask_decide(formula), found(formula, 3))
        self.assertEqual(ask_decide(formula), lacking(4, 16))

    def test_ways_that_end_in_circles_alone(self):
        formula = "(<>a&(<>(<><>a=~<>a)&<>([][]a&<><>a)))"
        rows = (0b11110, 0b01100, 0b01000, 0b01000, 0b10000)
        self.check(formula, rows, (0, 0, 1, 0, 1), 1 + 4)


class Size(unittest.TestCase):
    def test_seven_atoms_under_all_conditions_within_seconds(self):
        for formula in (
            "[][][][][][][]0",
            "<>[]<>[]<>[]a",
            "~[]~<>~[]~<>~[]~<>~a",
            chain("abcdefg", "="),
            chain(["a", "b", "c", "<>a", "<>b", "[](a|b)", "<>(c&~a)"]),
            chain(["a", "[]a", "<>~[]a", "[]<>~[]a", "~<>[]<>~[]a", "[](a=[]a)", "[][](a=[]a)"], "|"),
            "~" * 19 + "[]" + "~" * 4 + "<>" + "~" * 4 + "[]~<>" + "[]<>a",
            "(" * 8 + "<><><>[][][]a" + "&a)" * 8,
        ):
            self.assertEqual(len(atoms(formula)), 7)
            begun = time.process_time()
            may = ask_decide(formula)
            self.assertLess(time.process_time() - begun, 10)
            self.assertLessEqual(set(found(formula, 2)), set(may))

    def test_many_parts(self):
        self.assertEqual(ask_decide("~" * 39 + "a"), ALL)
        self.assertEqual(ask_decide("~" * 39 + "1"), [])
        self.assertEqual(ask_decide("~" * 33 + doubled(6)), ALL)
        self.assertEqual(ask_decide("(" * 39 + "a" + "&a)" * 39), ALL)
        self.assertEqual(ask_read("~" * 39 + "a"), 40)

    def test_59_decisions_in_a_line(self):
        formula = "(<>[]<>a&[]<>[]~a)"
        may = ask_decide(formula)
        once = [[int(conditions in may)] for conditions in ALL]
        got = ask(read(formula), *[decide(conditions) for conditions in (ALL + ALL)[:59]])
        self.assertEqual(got[1:], (once + once)[:59])

    def test_calls_do_not_lie_deep_within_one_another(self):
        self.addCleanup(sys.setrecursionlimit, sys.getrecursionlimit())
        sys.setrecursionlimit(len(inspect.stack()) + 80)
        for formula in ("~" * 39 + "a", "[]" * 6 + "a", "(" * 39 + "a" + "&a)" * 39):
            self.assertEqual(ask_decide(formula), ALL)


class Refused(unittest.TestCase):
    def test_no_such_conditions(self):
        for conditions in (32, 33, 63, 64, 4294967295):
            self.assertEqual(ask(read("a"), decide(conditions)), [[1], [-1]])
            self.assertEqual(ask(decide(conditions)), [[-1]])

    def test_no_formula(self):
        for conditions in ALL:
            self.assertEqual(ask(decide(conditions)), [[-2]])
        self.assertEqual(ask(read("a"), BEGIN, decide(0)), [[1], [0], [-2]])
        self.assertEqual(ask(read("a"), read("(a)"), decide(31)), [[1], [-3], [-2]])
        self.assertEqual(ask(read("a"), read("[]" * 12 + "a"), decide(31)), [[1], [-4], [-2]])

    def test_the_formula_stays(self):
        got = ask(read(" ~ 1 "), decide(0), text(), decide(32), text(), decide(31), frame(1, (1,)), decide(3))
        self.assertEqual(got, [[2], [0], spelled("~1"), [-1], spelled("~1"), [0], [31], [0]])

    def test_the_formula_that_was_read_last(self):
        self.assertEqual(ask(read("1"), decide(0), read("0"), decide(0), read("a" * 513), decide(0), read("a"), decide(0)),
                         [[1], [1], [1], [0], [-1], [0], [1], [1]])


if __name__ == "__main__":
    unittest.main()
