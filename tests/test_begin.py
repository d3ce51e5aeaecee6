"""Promise 1: begin."""

import unittest

from tests.helper import BEGIN, ask, read, spelled, text


class Begin(unittest.TestCase):
    def test_answers_0(self):
        self.assertEqual(ask(BEGIN), [[0]])

    def test_leaves_no_formula_where_there_was_none(self):
        self.assertEqual(ask(BEGIN, text()), [[0], [-2]])

    def test_leaves_no_formula_where_one_was_read(self):
        self.assertEqual(ask(read("~a"), BEGIN, text()), [[2], [0], [-2]])

    def test_again_and_again(self):
        self.assertEqual(ask(BEGIN, BEGIN, read("a"), BEGIN, BEGIN, text()), [[0], [0], [1], [0], [0], [-2]])

    def test_a_formula_can_be_read_behind_it(self):
        self.assertEqual(ask(read("a"), BEGIN, read("~b"), text()), [[1], [0], [2], spelled("~b")])


if __name__ == "__main__":
    unittest.main()
