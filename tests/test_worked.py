"""The rows of the document's "Worked"."""

import unittest

from tests.support import (add, best, both, chance, fix, given, hangs, hold, node, nodes, other, size_by, sizes, some,
                           told, ways)

VARIABLES = "a : 1/2, b : 1/3, c : 1/4"


class Worked(unittest.TestCase):

    def test_rows_one_behind_another(self):
        calls = [hold(VARIABLES), add("or(and(a, b), c)"), chance(4), ways(4), hangs(4), both(0, 4, 2), other(2),
                 some(4, 2), fix(4, 0, 1), given(2, 4), best(4), size_by(4, [2, 0, 1]), add("and(a, x)")]
        self.assertEqual(told(calls), [[1], [1, 4], [1, 3, 8], [5], [3, 0, 1, 2], [2], [5], [1], [3], [1, 2, 3],
                                       [1, 1, 8, 1, 1, 0], [3], [0, 6, 7]])

    def test_the_store_that_is_told(self):
        calls = [hold(VARIABLES), add("or(and(a, b), c)"), node(2), node(3), node(4), nodes(4), sizes()]
        self.assertEqual(told(calls)[2:], [[2, 0, 1], [1, 2, 1], [0, 2, 3], [3, 4, 2, 3], [3, 3]])

    def test_nodes_have_the_numbers_that_are_told(self):
        # Node 2 is c, node 3 is b or c, node 4 is the whole: each is found again under its number.
        calls = [hold(VARIABLES), add("or(and(a, b), c)"), add("c"), add("or(b, c)"), add("if(a, or(b, c), c)")]
        self.assertEqual(told(calls), [[1], [1, 4], [1, 2], [1, 3], [1, 4]])

    def test_chances_of_the_nodes(self):
        calls = [hold(VARIABLES), add("or(and(a, b), c)"), chance(0), chance(1), chance(2), chance(3)]
        self.assertEqual(told(calls)[2:], [[1, 0, 1], [1, 1, 1], [1, 1, 4], [1, 1, 2]])


if __name__ == "__main__":
    unittest.main()
