"""Promise 3: text."""

import unittest

from tests.helper import BEGIN, ask, doubled, read, spelled, text


class Text(unittest.TestCase):
    def test_without_blanks(self):
        for formula in ("a", " ~ a ", "\t(\na\r& b )", "[] <> 0", "( []a > <> b )", "((a|1)=(0>z))"):
            bare = "".join(formula.split())
            self.assertEqual(ask(read(formula), text())[1], spelled(bare))

    def test_most_at_the_number_and_around_it(self):
        for formula in ("a", "(a & b)", "~~~" + doubled(7), "a" + " " * 511):
            bare = formula.replace(" ", "")
            size = len(bare)
            got = ask(read(formula), text(size), text(size - 1), text(size + 1), text(0), text(4294967295))
            self.assertEqual(got[1:], [spelled(bare), [-1], spelled(bare), [-1], spelled(bare)])

    def test_no_formula(self):
        for most in (0, 1, 5, 512, 4294967295):
            self.assertEqual(ask(text(most)), [[-2]])
            self.assertEqual(ask(read("(a&b)"), BEGIN, text(most)), [[3], [0], [-2]])
            self.assertEqual(ask(read("(a&b)"), read("("), text(most)), [[3], [-3], [-2]])

    def test_the_formula_stays(self):
        self.assertEqual(ask(read("<>a"), text(), text(1), text()), [[2], spelled("<>a"), [-1], spelled("<>a")])


if __name__ == "__main__":
    unittest.main()
