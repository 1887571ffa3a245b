"""The rows of the document's "Worked"."""

import unittest

from tests.support import add, both, chance, fix, hold, other, some, told

VARIABLES = "a : 1/2, b : 1/3, c : 1/4"


class Worked(unittest.TestCase):

    def test_rows_one_behind_another(self):
        calls = [hold(VARIABLES), add("or(and(a, b), c)"), chance(4), both(0, 4, 2), other(2), some(4, 2),
                 fix(4, 0, 1), add("and(a, x)")]
        self.assertEqual(told(calls), [[1], [1, 4], [1, 3, 8], [2], [5], [1], [3], [0, 6, 7]])

    def test_nodes_have_the_numbers_that_are_told(self):
        # Node 2 is c, node 3 is b or c, node 4 is the whole: each is found again under its number.
        calls = [hold(VARIABLES), add("or(and(a, b), c)"), add("c"), add("or(b, c)"), add("if(a, or(b, c), c)")]
        self.assertEqual(told(calls), [[1], [1, 4], [1, 2], [1, 3], [1, 4]])

    def test_chances_of_the_nodes(self):
        calls = [hold(VARIABLES), add("or(and(a, b), c)"), chance(0), chance(1), chance(2), chance(3)]
        self.assertEqual(told(calls)[2:], [[1, 0, 1], [1, 1, 1], [1, 1, 4], [1, 1, 2]])


if __name__ == "__main__":
    unittest.main()
