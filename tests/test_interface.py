"""The interface: the list that is handed in and the list that is given back."""

import contextlib
import io
import unittest

from seenworlds.formulas import answers
from tests.helper import BEGIN, CONDITIONS, ask, decide, doubled, follows, frame, holds, read, spelled, text


class Unchangeable(list):
    """A list that fails at the first change, though it be taken back later."""

    def refuse(self, *arguments, **named):
        raise AssertionError("what was handed in is changed")

    append = clear = extend = insert = pop = remove = reverse = sort = refuse
    __setitem__ = __delitem__ = __iadd__ = __imul__ = refuse


# Every call, answered and refused.
MIXED = sum([
    BEGIN, read(" ( a & b ) "), text(), frame(3, (1, 2, 4)), holds(2, 1, (1, 2), (0, 3)), holds(2, 0, (1, 2), (0, 3)),
    decide(31), decide(32), follows(7, " a "), follows(7, "[]a"), follows(7, "("), follows(0, "~" * 40 + "a"), text(),
    follows(0, "x" * 600), read("0"), decide(0), read("x" * 600), text(0), holds(0, 0), holds(1, 1, (1,), (1,)),
    frame(0, ()), read("("), text(), holds(1, 0, (1,), (1,)), decide(3), follows(3, "a"),
], [])


class Form(unittest.TestCase):
    def test_each_call_by_itself(self):
        self.assertEqual(answers([0]), [1, 0])
        self.assertEqual(answers([1, 1, 97]), [1, 1])
        self.assertEqual(answers([1, 0]), [1, -3])
        self.assertEqual(answers([2, 0]), [1, -2])
        self.assertEqual(answers([3, 1, 1, 1]), [1, 31])
        self.assertEqual(answers([3, 0, 0]), [1, -1])
        self.assertEqual(answers([4, 1, 0, 2, 1, 0]), [1, -2])
        self.assertEqual(answers([4, 0, 0, 0]), [1, -1])
        self.assertEqual(answers([5, 31]), [1, -2])
        self.assertEqual(answers([5, 32]), [1, -1])
        self.assertEqual(answers([6, 31, 1, 97]), [1, -2])
        self.assertEqual(answers([6, 32, 0]), [1, -1])

    def test_several_calls_one_behind_another(self):
        calls = [2, 9, 1, 5, 40, 97, 38, 98, 41, 3, 2, 2, 2, 1, 2, 5, 2, 4, 0, 2, 5, 3, 65, 0, 1, 2, 32, 48, 2, 1]
        self.assertEqual(answers(calls), [
            1, -2,
            1, 3,
            1, 9,
            6, 5, 40, 97, 38, 98, 41,
            1, -1,
            1, 0,
            1, -2,
            1, -1,
            1, 1,
            2, 1, 48,
        ])

    def test_all_seven_one_behind_another(self):
        calls = [1, 2, 126, 97, 4, 2, 1, 4, 3, 1, 1, 0, 5, 31, 6, 0, 3, 126, 32, 97, 6, 0, 0, 3, 1, 1, 0, 2, 2, 0, 5, 0]
        self.assertEqual(answers(calls), [1, 2, 1, 1, 1, 1, 1, 1, 1, -3, 1, 28, 3, 2, 126, 97, 1, 0, 1, -2])

    def test_whole_numbers_in_a_list(self):
        given = answers(MIXED)
        self.assertIs(type(given), list)
        self.assertEqual({type(number) for number in given}, {int})


class Apart(unittest.TestCase):
    def test_what_is_handed_in_is_unchanged(self):
        calls = list(MIXED)
        before = list(calls)
        answers(calls)
        self.assertEqual(calls, before)

    def test_what_is_handed_in_is_not_changed_for_a_while_either(self):
        calls = list(MIXED)
        self.assertEqual(answers(Unchangeable(calls)), answers(calls))

    def test_nothing_is_printed(self):
        printed = io.StringIO()
        with contextlib.redirect_stdout(printed), contextlib.redirect_stderr(printed):
            answers(MIXED)
        self.assertEqual(printed.getvalue(), "")

    def test_what_is_given_back_is_new(self):
        calls = read("a") + text()
        first = answers(calls)
        first.clear()
        self.assertEqual(calls, read("a") + text())
        self.assertEqual(answers(calls), [1, 1, 2, 1, 97])

    def test_two_times_do_not_know_of_one_another(self):
        self.assertEqual(ask(read("a")), [[1]])
        self.assertEqual(ask(text()), [[-2]])
        self.assertEqual(ask(read("(b&a)"), text()), [[3], spelled("(b&a)")])
        self.assertEqual(ask(text()), [[-2]])
        self.assertEqual(ask(decide(0), follows(0, "a"), holds(1, 0, (0,), (0,))), [[-2]] * 3)
        self.assertEqual(answers(MIXED), answers(MIXED))


class Long(unittest.TestCase):
    def test_60_calls(self):
        calls = [read("~a"), text(), frame(1, (1,)), BEGIN] * 15
        self.assertEqual(ask(*calls), [[2], spelled("~a"), [31], [0]] * 15)

    def test_60_calls_that_mix_all_seven(self):
        formula = "([]a&<>~b)"
        six = [read(formula), decide(4), follows(2, "(a&<>a)"), follows(2, "(a&b)"), holds(2, 0, (2, 2), (0, 1)), text()]
        once = [[6], [1], [1], [0], [1], spelled(formula)]
        calls = six + [frame(2, (2, 2)), BEGIN, decide(4), holds(2, 0, (2, 2), (0, 1))]
        self.assertEqual(ask(*calls * 6), (once + [[21], [0], [-2], [-2]]) * 6)

    def test_every_order_of_two(self):
        calls = {
            "begin": BEGIN, "read": read("~1"), "text": text(), "frame": frame(1, (1,)), "holds": holds(1, 0, (1,), (1,)),
            "decide": decide(31), "follows": follows(31, "a"),
        }
        without = {"begin": [0], "read": [2], "text": [-2], "frame": [31], "holds": [-2], "decide": [-2], "follows": [-2]}
        with_one = {**without, "text": spelled("~1"), "holds": [0], "decide": [0], "follows": [1]}
        for first in calls:
            for second in calls:
                behind = with_one if first == "read" else without
                self.assertEqual(ask(calls[first], calls[second]), [without[first], behind[second]])
                later = without if first == "begin" else with_one
                self.assertEqual(ask(calls["read"], calls[first], calls[second]), [[2], with_one[first], later[second]])

    def test_60_of_the_longest_calls(self):
        every = (1 << 64) - 1
        formula = "~" * 32 + "[]<>[]<>[]<>a"
        rows, letters = [every] * 64, [4294967295] * 64
        self.assertEqual(ask(read(formula), *[holds(64, 63, rows, letters)] * 59), [[39]] + [[1]] * 59)
        got = ask(read(formula), *[decide(conditions) for conditions in CONDITIONS], *[follows(16, "<>a")] * 27)
        self.assertEqual(got, [[39]] + [[1]] * 32 + [[0]] * 27)

    def test_60_frames_of_64_worlds(self):
        every = (1 << 64) - 1
        self.assertEqual(ask(*[frame(64, [every] * 64)] * 60), [[31]] * 60)

    def test_near_16000_numbers(self):
        longest = "~~~" + doubled(7)
        calls = [read(longest), text()] * 30
        self.assertEqual(ask(*calls), [[11], spelled(longest)] * 30)
        refused = [read("a" * 600)] * 26
        self.assertEqual(ask(*refused), [[-1]] * 26)


if __name__ == "__main__":
    unittest.main()
