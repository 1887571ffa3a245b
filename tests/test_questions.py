"""The calls that make nothing: given, ways, node, nodes, hangs, says, list, best and sizes."""

import itertools
import unittest
from fractions import Fraction

from tests.support import (FAR, Draws, Model, add, all_functions, best, both, chance, choose, every, fix, formula_of,
                           given, hangs, hold, listed, node, nodes, other, put, says, scrambled, size_by, sizes, some,
                           told, tree_function, tree_text, ways, written)

VARIABLES = "a : 1/2, b : 1/3, c : 1/4"
HEAD = [hold(VARIABLES), add("or(and(a, b), c)")]
LETTERS = list("abcdefghijkl")


def behind(head, calls):
    """What is answered to the calls behind the head."""
    return told(head + calls)[len(head):]


class Scene:
    """So many variables with one large diagram, and the model that has made the same."""

    def __init__(self, count, terms, seed=0, chances=None):
        self.count = count
        names = LETTERS[:count]
        chances = chances or ["%d/%d" % (v + 1, 2 * v + 3) for v in range(count)]
        tree = scrambled(Draws(seed), names, terms)
        self.head = [hold(written(names, chances)), add(tree_text(tree))]
        self.model = Model(chances)
        self.top = self.model.make(tree_function(tree, names))

    def diagrams(self):
        """0, 1, some nodes and the greatest diagram."""
        steps = list(range(2, self.top, 1 + self.top // 6))
        return [0, 1] + steps + ([self.top] if self.top > 1 else [])


class Compared(unittest.TestCase):

    def compare(self, scene, calls):
        expected = [scene.model.answer(call) for call in calls]
        self.assertEqual(told(scene.head + calls), [[1], [1, scene.top]] + expected)


class Given(Compared):

    def test_diagrams_that_share_nodes(self):
        calls = [given(2, 4), given(3, 4), given(4, 2), given(4, 3), given(2, 3), given(3, 2), given(4, 4)]
        self.assertEqual(behind(HEAD, calls),
                         [[1, 2, 3], [1, 1, 1], [1, 1, 1], [1, 3, 4], [1, 1, 2], [1, 1, 1], [1, 1, 1]])

    def test_of_0_and_1(self):
        calls = [given(0, 4), given(1, 4), given(4, 1), given(0, 1), given(1, 1), given(4, 0), given(0, 0), given(1, 0)]
        self.assertEqual(behind(HEAD, calls),
                         [[1, 0, 1], [1, 1, 1], [1, 3, 8], [1, 0, 1], [1, 1, 1], [-6], [-6], [-6]])

    def test_a_chance_of_0_though_it_says_yes_for_some_truths(self):
        head = [hold("a : 0, b : 1, c : 1/3"), add("a"), add("not(b)"), add("and(a, c)"), add("or(a, not(b))"),
                add("b")]
        numbers = [answer[1] for answer in told(head)[1:]]
        calls = [given(1, number) for number in numbers[:4]] + [ways(number) for number in numbers[:4]]
        self.assertEqual(behind(head, calls), [[-6]] * 4 + [[4], [4], [2], [6]])
        calls = [given(numbers[0], numbers[4]), given(numbers[4], numbers[0]), given(numbers[3], numbers[4])]
        self.assertEqual(behind(head, calls), [[1, 0, 1], [-6], [1, 0, 1]])

    def test_diagrams_that_never_both_say_yes(self):
        head = [hold(VARIABLES), add("and(a, b)"), add("and(a, not(b))")]
        one, two = [answer[1] for answer in told(head)[1:]]
        self.assertEqual(behind(head, [given(one, two), given(two, one)]), [[1, 0, 1], [1, 0, 1]])

    def test_all_pairs_of_functions_of_two_variables(self):
        for chances in (["2/6", "3/7"], ["0", "1/2"], ["1", "4/8"]):
            names = LETTERS[:2]
            model = Model(chances)
            functions = all_functions(2)
            head = [hold(written(names, chances))] + [add(formula_of(one, names)) for one in functions]
            numbers = [model.make(one) for one in functions]
            calls = [given(i, j) for i, j in itertools.product(numbers, repeat=2)]
            self.assertEqual(behind(head, calls), [model.answer(call) for call in calls])

    def test_large_diagrams(self):
        for count in (1, 3, 5, 8, 12):
            scene = Scene(count, 40)
            numbers = scene.diagrams()
            self.compare(scene, [given(i, j) for i, j in itertools.product(numbers, repeat=2)])

    def test_beyond_ten_to_the_eighteenth(self):
        below = 999999937
        names = LETTERS
        text = written(names, ["%d/%d" % (below - 2 - v, below) for v in range(12)])
        formula = "l"
        for name in reversed(names[:11]):
            formula = "and(%s, %s)" % (name, formula)
        found = told([hold(text), add(formula), given(13, 1), given(13, 2)])[2:]
        product = Fraction(1)
        for v in range(12):
            product *= Fraction(below - 2 - v, below)
        self.assertEqual(found[0], [1, product.numerator, product.denominator])
        product /= Fraction(below - 13, below)
        self.assertEqual(found[1], [1, product.numerator, product.denominator])

    def test_nothing_is_made(self):
        head = [hold(VARIABLES), add("or(a, b)"), add("or(b, c)"), sizes()]
        nodes_there = told(head)[-1]
        one, two = [answer[1] for answer in told(head)[1:3]]
        found = behind(head, [given(one, two), sizes(), both(0, one, two), sizes()])
        self.assertEqual(found[1], nodes_there)
        self.assertGreater(found[3][1], nodes_there[1])


class Ways(Compared):

    def test_of_the_worked_nodes(self):
        self.assertEqual(behind(HEAD, [ways(i) for i in range(5)]), [[0], [8], [4], [6], [5]])

    def test_over_1_to_12_variables(self):
        for count in range(1, 13):
            scene = Scene(count, 10 * count)
            self.compare(scene, [ways(i) for i in scene.diagrams()])
            self.assertEqual(behind(scene.head, [ways(0), ways(1)]), [[0], [2 ** count]])

    def test_every_function_of_three_variables(self):
        functions = all_functions(3)
        for part in (functions[:128], functions[128:]):
            head = [hold(VARIABLES)] + [add(formula_of(one, "abc")) for one in part]
            numbers = [answer[1] for answer in told(head)[1:]]
            self.assertEqual(behind(head, [ways(i) for i in numbers]), [[sum(one)] for one in part])

    def test_whatever_the_chances(self):
        for text in ("a : 0, b : 1, c : 0", "a : 1/2, b : 1/2, c : 1/2", "a : 1/7, b : 0, c : 999999999/1000000000"):
            self.assertEqual(told([hold(text), HEAD[1], ways(4)])[2], [5])


class Says(Compared):

    def test_all_truths_over_1_to_8_variables(self):
        for count in range(1, 9):
            scene = Scene(count, 10 * count)
            rows = scene.model.rows
            self.compare(scene, [says(scene.top, row) for row in rows])
            for i in scene.diagrams():
                self.compare(scene, [says(i, row) for row in rows[:100]])

    def test_over_9_to_12_variables(self):
        for count in range(9, 13):
            scene = Scene(count, 10 * count)
            step = len(scene.model.rows) // 300
            self.compare(scene, [says(scene.top, row) for row in scene.model.rows[1::step]][:390])

    def test_of_0_and_1(self):
        for count in range(1, 13):
            head = [hold(written(LETTERS[:count], ["1/2"] * count))]
            rows = [[0] * count, [1] * count, ([0, 1] * 6)[:count]]
            calls = [says(0, row) for row in rows] + [says(1, row) for row in rows]
            self.assertEqual(behind(head, calls), [[0]] * 3 + [[1]] * 3)

    def test_truths_that_are_not_as_many_as_variables(self):
        for i in (0, 1, 4):
            for length in (0, 1, 2, 4, 5, 12, 2000):
                self.assertEqual(behind(HEAD, [says(i, [1] * length)]), [[-5]])

    def test_truths_that_are_neither_0_nor_1(self):
        for i, bad, at in itertools.product((0, 1, 4), (2, -1, 3, FAR, -FAR), range(3)):
            row = [1, 1, 1]
            row[at] = bad
            self.assertEqual(behind(HEAD, [says(i, row), sizes()]), [[-5], [3, 3]])

    def test_too_few_and_too_many_with_wrong_numbers_among_them(self):
        rows = [[2], [FAR, -FAR], [0, 1, 0, 2], [-1] * 2000, [FAR] * 2000, [0, 1] * 1000]
        self.assertEqual(behind(HEAD, [says(4, row) for row in rows]), [[-5]] * 6)

    def test_one_variable(self):
        head = [hold("a : 1/2"), add("a"), add("not(a)")]
        calls = [says(2, [0]), says(2, [1]), says(3, [0]), says(3, [1]), says(2, []), says(2, [0, 0]), says(2, [2])]
        self.assertEqual(behind(head, calls), [[0], [1], [1], [0], [-5], [-5], [-5]])


class Lists(Compared):

    def test_the_order(self):
        self.assertEqual(behind(HEAD, [listed(4, 200)]),
                         [[5, 0, 0, 1, 0, 1, 1, 1, 0, 1, 1, 1, 0, 1, 1, 1]])
        self.assertEqual(behind(HEAD, [listed(1, 200)]),
                         [[8] + [truth for row in itertools.product((0, 1), repeat=3) for truth in row]])

    def test_how_many_are_told(self):
        calls = [listed(4, n) for n in (0, 1, 2, 4, 5, 6, 199, 200)]
        rows = [[0, 0, 1], [0, 1, 1], [1, 0, 1], [1, 1, 0], [1, 1, 1]]
        expected = [[n] + [truth for row in rows[:n] for truth in row] for n in (0, 1, 2, 4, 5, 5, 5, 5)]
        self.assertEqual(behind(HEAD, calls), expected)

    def test_of_0_and_1(self):
        calls = [listed(0, 0), listed(0, 1), listed(0, 200), listed(1, 0), listed(1, 1), listed(1, 2)]
        self.assertEqual(behind(HEAD, calls), [[0], [0], [0], [0], [1, 0, 0, 0], [2, 0, 0, 0, 0, 0, 1]])

    def test_n_outside_0_to_200(self):
        for i, n in itertools.product((0, 1, 2, 4), (201, -1, 202, 4096, FAR, -FAR)):
            self.assertEqual(behind(HEAD, [listed(i, n), sizes()]), [[-5], [3, 3]])

    def test_over_1_to_12_variables(self):
        for count in range(1, 13):
            scene = Scene(count, 10 * count)
            self.compare(scene, [listed(i, n) for i in scene.diagrams() for n in (0, 1, 3, 100, 199, 200)])

    def test_just_200_and_more(self):
        scene = Scene(12, 5, seed=3)
        found = behind(scene.head, [listed(1, 200), listed(scene.top, 200)])
        self.assertEqual([len(answer) for answer in found], [2401, 2401])
        self.compare(scene, [listed(1, 200), listed(scene.top, 200), listed(1, 201)])

    def test_every_list_is_said_yes_for(self):
        scene = Scene(6, 30)
        answer = behind(scene.head, [listed(scene.top, 200), ways(scene.top)])
        rows = [answer[0][1 + 6 * place:7 + 6 * place] for place in range(answer[0][0])]
        self.assertEqual(len(rows), answer[1][0])
        self.assertEqual(rows, sorted(rows))
        self.assertEqual(behind(scene.head, [says(scene.top, row) for row in rows]), [[1]] * len(rows))


class Node(Compared):

    def test_the_worked_nodes(self):
        self.assertEqual(behind(HEAD, [node(i) for i in range(5)]), [[-6], [-6], [2, 0, 1], [1, 2, 1], [0, 2, 3]])

    def test_beyond_the_store(self):
        for i in (5, 6, 3001, 3002, FAR, -1, -2, -FAR):
            self.assertEqual(behind(HEAD, [node(i)]), [[-2]])

    def test_an_empty_store(self):
        self.assertEqual(told([hold("a : 1/2"), node(0), node(1), node(2)])[1:], [[-6], [-6], [-2]])

    def test_every_node_of_a_large_diagram(self):
        for count in (2, 4, 7, 10):
            scene = Scene(count, 10 * count)
            self.compare(scene, [node(i) for i in range(min(390, scene.top + 2))])

    def test_nodes_have_the_order_in_which_they_are_put(self):
        head = [hold(VARIABLES), add("b"), add("a"), add("and(a, b)"), add("eq(b, c)")]
        calls = [node(i) for i in range(2, 9)]
        self.assertEqual(behind(head, calls),
                         [[1, 0, 1], [0, 0, 1], [0, 0, 2], [2, 1, 0], [2, 0, 1], [1, 5, 6], [-2]])


class Nodes(Compared):

    def test_the_worked_nodes(self):
        self.assertEqual(behind(HEAD, [nodes(i) for i in range(5)]), [[0], [0], [1, 2], [2, 3, 2], [3, 4, 2, 3]])

    def test_no_comes_before_yes(self):
        head = [hold(VARIABLES), add("c"), add("b"), add("if(a, c, b)"), add("if(a, b, c)")]
        self.assertEqual(behind(head, [nodes(4), nodes(5)]), [[3, 4, 3, 2], [3, 5, 2, 3]])

    def test_one_level_comes_before_the_next(self):
        head = [hold("a : 1/2, b : 1/2, c : 1/2, d : 1/2"), add("if(a, if(b, c, d), if(b, not(d), not(c)))")]
        self.assertEqual(behind(head, [node(i) for i in range(2, 9)]),
                         [[2, 1, 0], [3, 1, 0], [1, 2, 3], [3, 0, 1], [2, 0, 1], [1, 5, 6], [0, 4, 7]])
        self.assertEqual(behind(head, [nodes(8), nodes(7), nodes(4)]),
                         [[7, 8, 4, 7, 2, 3, 5, 6], [3, 7, 5, 6], [3, 4, 2, 3]])

    def test_a_node_that_is_met_again_stands_once(self):
        # Node 2, c itself, is met first right below the top, and again two steps below it.
        head = [hold("a : 1/2, b : 1/2, c : 1/2"), add("if(a, eq(b, c), c)")]
        self.assertEqual(behind(head, [nodes(5)]), [[4, 5, 2, 4, 3]])

    def test_other_nodes_of_the_store_are_left_out(self):
        head = HEAD + [add("eq(a, c)"), add("b")]
        number = told(head)[-1][1]
        self.assertEqual(behind(head, [nodes(number), nodes(4)]), [[1, number], [3, 4, 2, 3]])

    def test_all_nodes_of_all_diagrams(self):
        for count in range(1, 8):
            scene = Scene(count, 10 * count)
            self.compare(scene, [nodes(i) for i in range(min(scene.top + 2, 390))])

    def test_the_greatest_diagrams(self):
        scene = Scene(12, 180)
        self.assertEqual(len(scene.model.nodes), 724)
        self.compare(scene, [nodes(scene.top)] + [nodes(i) for i in range(0, scene.top, 97)])


class Hangs(Compared):

    def test_the_worked_nodes(self):
        self.assertEqual(behind(HEAD, [hangs(i) for i in range(5)]), [[0], [0], [1, 2], [2, 1, 2], [3, 0, 1, 2]])

    def test_least_first(self):
        names = LETTERS
        formula = "or(and(l, d), eq(j, and(b, k)))"
        head = [hold(written(names, ["1/2"] * 12)), add(formula)]
        self.assertEqual(behind(head, [hangs(told(head)[1][1])]), [[5, 1, 3, 9, 10, 11]])

    def test_variables_that_are_named_and_do_not_matter(self):
        head = [hold(VARIABLES)]
        for text, expected in [("if(a, b, b)", [1, 1]), ("eq(eq(a, c), c)", [1, 0]), ("or(a, not(a))", [0]),
                               ("and(and(a, b), not(b))", [0]), ("or(and(a, c), and(not(a), c))", [1, 2])]:
            calls = head + [add(text)]
            self.assertEqual(told(calls + [hangs(told(calls)[1][1])])[2], expected)

    def test_variables_that_are_sure_still_matter(self):
        calls = [hold("a : 0, b : 1"), add("and(a, b)"), hangs(3)]
        self.assertEqual(told(calls), [[1], [1, 3], [2, 0, 1]])

    def test_over_1_to_12_variables(self):
        for count in range(1, 13):
            scene = Scene(count, 6 + count, seed=count)
            self.compare(scene, [hangs(i) for i in scene.diagrams()])


class Best(Compared):

    def test_the_worked_nodes(self):
        self.assertEqual(behind(HEAD, [best(i) for i in range(5)]),
                         [[-6], [2, 1, 4, 0, 0, 0], [2, 1, 12, 0, 0, 1], [2, 1, 8, 0, 1, 0], [1, 1, 8, 1, 1, 0]])

    def test_several_with_the_greatest_chance(self):
        head = [hold("a : 1/2, b : 1/2, c : 1/2"), add("or(and(a, b), c)"), add("eq(a, not(b))")]
        numbers = [answer[1] for answer in told(head)[1:]]
        self.assertEqual(behind(head, [best(numbers[0]), best(numbers[1]), best(1)]),
                         [[5, 1, 8, 0, 0, 1], [4, 1, 8, 0, 1, 0], [8, 1, 8, 0, 0, 0]])

    def test_unlike_ways_to_the_same_chance(self):
        # a with b false and b with a false have the same chance, 1/3 * 2/3.
        head = [hold("a : 1/3, b : 1/3"), add("not(eq(a, b))")]
        self.assertEqual(behind(head, [best(told(head)[1][1])]), [[2, 2, 9, 0, 1]])
        head = [hold("a : 2/3, b : 1/3"), add("eq(a, b)")]
        self.assertEqual(behind(head, [best(told(head)[1][1])]), [[2, 2, 9, 0, 0]])

    def test_a_likely_step_first_is_not_always_best(self):
        # With a false, which is likelier, b and c both have to be true, which is not.
        head = [hold("a : 2/5, b : 1/4, c : 1/4"), add("or(a, and(b, c))")]
        self.assertEqual(behind(head, [best(told(head)[1][1])]), [[1, 9, 40, 1, 0, 0]])

    def test_the_greatest_chance_is_0(self):
        head = [hold("a : 0, b : 1/3, c : 1"), add("a"), add("not(c)"), add("and(a, b)"), add("or(a, not(c))"),
                add("and(a, not(c))")]
        numbers = [answer[1] for answer in told(head)[1:]]
        self.assertEqual(behind(head, [best(i) for i in numbers]),
                         [[4, 0, 1, 1, 0, 0], [4, 0, 1, 0, 0, 0], [2, 0, 1, 1, 1, 0], [6, 0, 1, 0, 0, 0],
                          [2, 0, 1, 1, 0, 0]])

    def test_beside_truths_with_the_chance_0(self):
        head = [hold("a : 0, b : 1/3, c : 1"), add("or(a, c)"), add("if(a, true, and(b, c))")]
        numbers = [answer[1] for answer in told(head)[1:]]
        self.assertEqual(behind(head, [best(1)] + [best(i) for i in numbers]),
                         [[1, 2, 3, 0, 0, 1], [1, 2, 3, 0, 0, 1], [1, 1, 3, 0, 1, 1]])

    def test_every_function_of_three_variables(self):
        functions = all_functions(3)
        for chances in (["1/2", "1/3", "2/3"], ["0", "1/2", "1"], ["3/4", "3/4", "1/4"], ["1/2", "0", "1/2"]):
            for part in (functions[:128], functions[128:]):
                model = Model(chances)
                head = [hold(written("abc", chances))] + [add(formula_of(one, "abc")) for one in part]
                calls = [best(model.make(one)) for one in part]
                self.assertEqual(behind(head, calls), [model.answer(call) for call in calls])

    def test_over_1_to_12_variables(self):
        for count in range(1, 13):
            for chances in (None, ["1/2"] * count, ["%d/3" % (v % 4) for v in range(count)]):
                scene = Scene(count, 10 * count, 0, chances)
                self.compare(scene, [best(i) for i in scene.diagrams()])

    def test_beyond_ten_to_the_eighteenth(self):
        below = 999999937
        text = written(LETTERS, ["%d/%d" % (below - 1, below)] * 12)
        self.assertEqual(told([hold(text), best(1)])[1], [1, (below - 1) ** 12, below ** 12] + [1] * 12)
        text = written(LETTERS, ["1/%d" % below] * 12)
        found = told([hold(text), best(1)])[1]
        self.assertEqual(found, [1, (below - 1) ** 12, below ** 12] + [0] * 12)


class Sizes(unittest.TestCase):

    def test_before_and_behind_what_makes_a_diagram(self):
        calls = [hold(VARIABLES), sizes(), add("or(and(a, b), c)"), sizes(), other(2), sizes(), both(1, 2, 5), sizes(),
                 add("a"), sizes(), choose(6, 2, 3), sizes(), fix(4, 2, 0), sizes(), some(7, 1), sizes(), every(7, 2),
                 sizes(), put(4, 1, 5), sizes()]
        found = told(calls)
        self.assertEqual(found[1::2], [[3, size] for size in (0, 3, 4, 4, 5, 6, 8, 9, 10, 11)])
        self.assertEqual(found[::2], [[1], [1, 4], [5], [1], [1, 6], [7], [9], [10], [11], [12]])

    def test_calls_that_make_nothing_new(self):
        same = [add("or(and(a, b), c)"), add("c"), add("true"), both(0, 4, 2), both(2, 3, 3), other(0), other(1),
                choose(1, 4, 2), fix(4, 0, 1), some(4, 2), every(4, 0), put(4, 0, 1)]
        found = behind(HEAD, [call for one in same for call in (one, sizes())])
        self.assertEqual(found[1::2], [[3, 3]] * len(same))

    def test_calls_that_only_ask(self):
        asks = [chance(4), given(4, 3), given(2, 4), ways(4), node(4), nodes(4), hangs(4), says(4, [0, 1, 0]),
                listed(4, 200), best(4), size_by(4, [2, 1, 0]), size_by(4, [1, 2, 0]), sizes()]
        found = behind(HEAD, [call for one in asks for call in (one, sizes())])
        self.assertEqual(found[1::2], [[3, 3]] * len(asks))

    def test_calls_that_are_refused_or_have_a_fault(self):
        bad = [add("x"), add("and(a, eq(b, c)"), add("?"), both(4, 2, 3), both(0, 2, 9), other(9), choose(2, 3, 9),
               fix(4, 3, 0), fix(4, 0, 2), some(4, -1), every(9, 0), put(4, 3, 2), put(4, 0, 9), chance(9),
               given(4, 0), given(4, 9), ways(9), node(1), nodes(-1), hangs(5), says(4, []), listed(4, 201), best(0),
               size_by(4, [0, 1]), hold("a"), hold(""), hold("a : 1/2, a : 1/2")]
        found = behind(HEAD, [call for one in bad for call in (one, sizes())])
        self.assertEqual(found[1::2], [[3, 3]] * len(bad))

    def test_behind_a_second_vars(self):
        calls = HEAD + [sizes(), hold("x : 1/2, y : 1/2"), sizes(), add("eq(x, y)"), sizes(), hold(VARIABLES), sizes(),
                        hold("x : 2"), sizes()]
        self.assertEqual(told(calls)[2:], [[3, 3], [1], [2, 0], [1, 4], [2, 3], [1], [3, 0], [0, 7, 4], [3, 0]])

    def test_over_1_to_12_variables(self):
        for count in range(1, 13):
            scene = Scene(count, 10 * count)
            self.assertEqual(behind(scene.head, [sizes()]), [[count, len(scene.model.nodes)]])

    def test_before_variables_are_held(self):
        self.assertEqual(told([sizes(), hold("a : 2"), sizes(), hold("a : 1"), sizes()]),
                         [[-1], [0, 7, 4], [-1], [1], [1, 0]])


if __name__ == "__main__":
    unittest.main()
