"""The interface: the list that is handed in and the list that is given back."""

import contextlib
import io
import unittest

from seenworlds.formulas import answers
from tests.helper import BEGIN, ask, doubled, frame, read, spelled, text


class Unchangeable(list):
    """A list that fails at the first change, though it be taken back later."""

    def refuse(self, *arguments, **named):
        raise AssertionError("what was handed in is changed")

    append = clear = extend = insert = pop = remove = reverse = sort = refuse
    __setitem__ = __delitem__ = __iadd__ = __imul__ = refuse


class Form(unittest.TestCase):
    def test_each_call_by_itself(self):
        self.assertEqual(answers([0]), [1, 0])
        self.assertEqual(answers([1, 1, 97]), [1, 1])
        self.assertEqual(answers([1, 0]), [1, -3])
        self.assertEqual(answers([2, 0]), [1, -2])
        self.assertEqual(answers([3, 1, 1, 1]), [1, 31])
        self.assertEqual(answers([3, 0, 0]), [1, -1])

    def test_several_calls_one_behind_another(self):
        calls = [2, 9, 1, 5, 40, 97, 38, 98, 41, 3, 2, 2, 2, 1, 2, 5, 2, 4, 0, 2, 5, 3, 65, 0, 1, 2, 32, 48, 2, 1]
        self.assertEqual(answers(calls), [
            1, -2,
            1, 3,
            1, 9,
            6, 5, 40, 97, 38, 98, 41,
            1, -1,
            1, 0,
            1, -2,
            1, -1,
            1, 1,
            2, 1, 48,
        ])

    def test_whole_numbers_in_a_list(self):
        given = answers(BEGIN + read("(a&b)") + text() + frame(2, (3, 3)) + read("(") + text())
        self.assertIs(type(given), list)
        self.assertEqual({type(number) for number in given}, {int})


class Apart(unittest.TestCase):
    def test_what_is_handed_in_is_unchanged(self):
        calls = read(" ( a & b ) ") + text() + frame(3, (1, 2, 4)) + BEGIN + read("x" * 600) + text(0)
        before = list(calls)
        answers(calls)
        self.assertEqual(calls, before)

    def test_what_is_handed_in_is_not_changed_for_a_while_either(self):
        calls = read(" ( a & b ) ") + text() + frame(3, (1, 2, 4)) + BEGIN + read("x" * 600) + text(0)
        self.assertEqual(answers(Unchangeable(calls)), answers(calls))

    def test_nothing_is_printed(self):
        printed = io.StringIO()
        with contextlib.redirect_stdout(printed), contextlib.redirect_stderr(printed):
            ask(BEGIN, read("(a&b)"), text(), read("("), frame(2, (1, 2)), frame(0, ()))
        self.assertEqual(printed.getvalue(), "")

    def test_what_is_given_back_is_new(self):
        calls = read("a") + text()
        first = answers(calls)
        first.clear()
        self.assertEqual(calls, read("a") + text())
        self.assertEqual(answers(calls), [1, 1, 2, 1, 97])

    def test_two_times_do_not_know_of_one_another(self):
        self.assertEqual(ask(read("a")), [[1]])
        self.assertEqual(ask(text()), [[-2]])
        self.assertEqual(ask(read("(b&a)"), text()), [[3], spelled("(b&a)")])
        self.assertEqual(ask(text()), [[-2]])


class Long(unittest.TestCase):
    def test_60_calls(self):
        calls = [read("~a"), text(), frame(1, (1,)), BEGIN] * 15
        self.assertEqual(ask(*calls), [[2], spelled("~a"), [31], [0]] * 15)

    def test_60_frames_of_64_worlds(self):
        every = (1 << 64) - 1
        self.assertEqual(ask(*[frame(64, [every] * 64)] * 60), [[31]] * 60)

    def test_near_16000_numbers(self):
        longest = "~~~" + doubled(7)
        calls = [read(longest), text()] * 30
        self.assertEqual(ask(*calls), [[11], spelled(longest)] * 30)
        refused = [read("a" * 600)] * 26
        self.assertEqual(ask(*refused), [[-1]] * 26)


if __name__ == "__main__":
    unittest.main()
