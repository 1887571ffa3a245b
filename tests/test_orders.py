"""sizeBy, and point 7: the order of the variables changes the size, never the chance."""

import itertools
import unittest

from tests.support import (FAR, Draws, Model, add, all_functions, chance, formula_of, hold, nodes, scrambled, size_by,
                           sizes, told, tree_function, tree_text, ways, written)

VARIABLES = "a : 1/2, b : 1/3, c : 1/4"
HEAD = [hold(VARIABLES), add("or(and(a, b), c)")]
LETTERS = list("abcdefghijkl")
CHANCES = ["1/2", "1/3", "1/4", "2/5", "0", "5/7", "1", "3/8", "1/9", "9/10", "4/11", "1/12"]
# Three pairs: small with each pair side by side, large with the first of all pairs asked before the others.
PAIRS = "or(and(a, b), or(and(c, d), and(e, f)))"


def asked_in(order, text):
    """The calls that hold the same variables in this order and add the formula."""
    return [hold(written([LETTERS[v] for v in order], [CHANCES[v] for v in order])), add(text)]


def made_in(order, text):
    """How many nodes the formula's diagram has, made in this order, and its chance and ways."""
    calls = asked_in(order, text)
    number = told(calls)[1][1]
    found = told(calls + [nodes(number), chance(number), ways(number), sizes()])[2:]
    return found[0][0], found[1], found[2], found[3]


class EveryOrder(unittest.TestCase):
    """Point 7."""

    def check(self, count, text):
        orders = list(itertools.permutations(range(count)))
        calls = asked_in(range(count), text)
        number = told(calls)[1][1]
        found = told(calls + [size_by(number, order) for order in orders] + [chance(number), ways(number)])[2:]
        made = [made_in(order, text) for order in orders]
        self.assertEqual(found[:-2], [[one[0]] for one in made])
        self.assertEqual([one[3] for one in made], [[count, one[0]] for one in made])
        self.assertEqual([one[1] for one in made], [found[-2]] * len(orders))
        self.assertEqual([one[2] for one in made], [found[-1]] * len(orders))
        return [answer[0] for answer in found[:-2]]

    def test_several_functions_of_one_to_four_variables(self):
        texts = ["a", "not(a)", "true", "false"]
        for count in (1, 2, 3, 4):
            texts += [tree_text(scrambled(Draws(seed), LETTERS[:count], 2 * count)) for seed in range(6)]
            for text in texts:
                self.check(count, text)

    def test_several_functions_of_five_variables(self):
        for seed in range(4):
            self.check(5, tree_text(scrambled(Draws(seed), LETTERS[:5], 12)))
        self.check(5, "if(a, if(b, c, d), e)")

    def test_the_order_does_change_the_size(self):
        self.assertEqual(set(self.check(3, "if(a, b, c)")), {3, 4, 5})
        self.assertEqual(set(self.check(4, "or(and(a, b), and(c, d))")), {4, 6})

    def test_every_function_of_three_variables_in_every_order(self):
        functions = all_functions(3)
        for part in range(0, 256, 32):
            model = Model(["1/2", "1/3", "1/4"])
            some = functions[part:part + 32]
            head = [hold(VARIABLES)] + [add(formula_of(one, "abc")) for one in some]
            numbers = [model.make(one) for one in some]
            calls = [size_by(number, order) for number in numbers for order in itertools.permutations(range(3))]
            self.assertEqual(told(head + calls)[len(head):], [model.answer(call) for call in calls])


class Sizes(unittest.TestCase):

    def test_the_worked_orders(self):
        # With c between a and b it is asked by two nodes: one for a false, one for a true.
        orders = [[0, 1, 2], [0, 2, 1], [1, 0, 2], [1, 2, 0], [2, 0, 1], [2, 1, 0]]
        self.assertEqual(told(HEAD + [size_by(4, order) for order in orders])[2:], [[3], [4], [3], [4], [3], [3]])

    def test_pairs_side_by_side_and_apart(self):
        head = asked_in(range(6), PAIRS)
        number = told(head)[1][1]
        orders = [[0, 1, 2, 3, 4, 5], [0, 2, 4, 1, 3, 5], [5, 3, 1, 4, 2, 0], [5, 4, 3, 2, 1, 0], [0, 2, 1, 3, 4, 5]]
        self.assertEqual(told(head + [size_by(number, order) for order in orders])[2:], [[6], [14], [14], [6], [8]])

    def test_the_order_of_the_numbers_is_the_order_of_asking(self):
        # It is small with c asked first: with 2 as the list's first number, wherever 0 stands.
        head = [hold(VARIABLES), add("if(c, a, b)")]
        number = told(head)[1][1]
        orders = [[2, 0, 1], [2, 1, 0], [0, 1, 2], [1, 0, 2], [1, 2, 0], [0, 2, 1]]
        self.assertEqual(told(head + [size_by(number, order) for order in orders])[2:],
                         [[3], [3], [5], [5], [4], [4]])

    def test_lists_that_would_say_another_order_if_read_the_other_way(self):
        # The list 1 2 3 0 says that the variable 1 is asked first, not that the variable 0 is asked second.
        text = "or(and(a, b), and(c, d))"
        head = asked_in(range(4), text)
        number = told(head)[1][1]
        for order in itertools.permutations(range(4)):
            self.assertEqual(told(head + [size_by(number, order)])[2], [made_in(order, text)[0]])

    def test_of_0_and_1(self):
        for i in (0, 1):
            calls = [size_by(i, order) for order in itertools.permutations(range(3))]
            self.assertEqual(told(HEAD + calls)[2:], [[0]] * 6)

    def test_of_nodes_within(self):
        calls = [size_by(2, [2, 1, 0]), size_by(3, [2, 1, 0]), size_by(3, [0, 2, 1])]
        self.assertEqual(told(HEAD + calls)[2:], [[1], [2], [2]])

    def test_nodes_of_the_store_are_counted_all_the_same(self):
        """The other store is empty, so what this one has already is not left out, nor is more counted."""
        order = [0, 1, 2]
        calls = [size_by(4, order), size_by(3, order), add("eq(a, b)"), size_by(4, order), size_by(7, order)]
        self.assertEqual(told(HEAD + calls)[2:], [[3], [2], [1, 7], [3], [3]])

    def test_the_own_order_has_the_size_that_nodes_tells(self):
        for count in range(1, 13):
            text = tree_text(scrambled(Draws(count), LETTERS[:count], 10 * count))
            head = asked_in(range(count), text)
            number = told(head)[1][1]
            found = told(head + [size_by(number, range(count)), nodes(number), sizes()])[2:]
            self.assertEqual(found[0], found[1][:1])
            self.assertEqual(found[2][1], found[0][0])

    def test_large_diagrams_in_several_orders(self):
        draws = Draws(7)
        for count in range(6, 13):
            text = tree_text(scrambled(Draws(count), LETTERS[:count], 6 * count))
            head = asked_in(range(count), text)
            number = told(head)[1][1]
            for turn in range(4):
                order = list(range(count))
                for place in range(count - 1, 0, -1):
                    drawn = draws.below(place + 1)
                    order[place], order[drawn] = order[drawn], order[place]
                found = told(head + [size_by(number, order), chance(number), ways(number)])[2:]
                made = made_in(order, text)
                self.assertEqual(found, [[made[0]], made[1], made[2]])

    def test_a_large_diagram_against_the_model(self):
        tree = scrambled(Draws(0), LETTERS, 60)
        model = Model(CHANCES)
        number = model.make(tree_function(tree, LETTERS))
        head = asked_in(range(12), tree_text(tree))
        calls = [size_by(number, [11, 0, 10, 1, 9, 2, 8, 3, 7, 4, 6, 5]), size_by(number, list(range(11, -1, -1)))]
        self.assertEqual(told(head + calls)[2:], [model.answer(call) for call in calls])


class NoOrder(unittest.TestCase):

    def check(self, rows):
        for i, row in itertools.product((0, 1, 2, 4), rows):
            with self.subTest(i=i, row=row[:5]):
                self.assertEqual(told(HEAD + [size_by(i, row), sizes()])[2:], [[-5], [3, 3]])

    def test_too_short_too_long_and_empty(self):
        self.check([[], [0], [0, 1], [2, 1], [0, 1, 2, 3], [0, 1, 2, 0], [0, 1, 2, 2], [0, 1, 2, -1]])

    def test_a_number_twice(self):
        self.check([[0, 0, 1], [0, 1, 1], [2, 2, 2], [0, 0, 0], [1, 2, 1]])

    def test_below_0_and_beyond_the_last_variable(self):
        self.check([[-1, 0, 1], [0, 1, 3], [1, 2, 3], [0, 1, -2], [-1, -2, -3], [0, 1, FAR], [-FAR, 1, 2],
                    [FAR, FAR, FAR], [0, 1, 12]])

    def test_2000_numbers(self):
        self.check([[0, 1, 2] + [0] * 1997, list(range(2000)), [FAR] * 2000, [-FAR] * 2000, [0] * 2000])

    def test_one_and_twelve_variables(self):
        head = [hold("a : 1/2"), add("a")]
        calls = [size_by(2, row) for row in ([0], [], [1], [-1], [0, 0], [0, 1])]
        self.assertEqual(told(head + calls)[2:], [[1], [-5], [-5], [-5], [-5], [-5]])
        head = [hold(written(LETTERS, CHANCES)), add("and(a, l)")]
        rows = [list(range(12)), list(range(11)), list(range(13)), list(range(1, 13)), [0] + list(range(11))]
        self.assertEqual(told(head + [size_by(3, row) for row in rows])[2:], [[2], [-5], [-5], [-5], [-5]])


class StoreAsItWas(unittest.TestCase):

    def test_behind_every_order(self):
        head = asked_in(range(6), PAIRS)
        number = told(head)[1][1]
        orders = list(itertools.permutations(range(6)))[::19]
        calls = [call for order in orders for call in (size_by(number, order), sizes())]
        found = told(head + calls + [add("e"), add("eq(a, f)")])
        self.assertEqual(found[3:-2:2], [[6, 6]] * len(orders))
        self.assertEqual(found[-2:], told(head + [add("e"), add("eq(a, f)")])[2:])

    def test_the_order_of_the_variables_stays(self):
        calls = [size_by(4, [2, 1, 0]), nodes(4), [12, 4], [16, 4, 1], add("a"), [12, 5]]
        self.assertEqual(told(HEAD + calls)[2:], [[3], [3, 4, 2, 3], [0, 2, 3], [1, 0, 0, 1], [1, 5], [0, 0, 1]])


if __name__ == "__main__":
    unittest.main()
