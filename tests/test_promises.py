"""The promises, over functions of several variables and all truths; the seventh has tests in test_orders.py too.

The chances of ODD are such that a function's chance tells all that it says: with odds of 2, 4, 16 and so on each
list of truths has a power of 2 of its own, and the chance's numerator over ODD_WHOLE holds one bit for each.
"""

import itertools
import unittest
from fractions import Fraction

from tests.support import (Draws, Model, add, all_functions, best, both, chance, choose, every, fix, formula_of, given,
                           hangs, hold, listed, node, nodes, other, put, says, size_by, sizes, some, told, ways,
                           written)

NAMES = ["a", "b", "c", "d", "e"]
ODD = {3: ["16/17", "4/5", "2/3"], 4: ["256/257", "16/17", "4/5", "2/3"]}
ODD_WHOLE = {3: 17 * 5 * 3, 4: 257 * 17 * 5 * 3}


def function_of_bits(bits, count):
    return tuple(bits >> place & 1 for place in range(2 ** count))


def read_function(answer, count):
    """The function whose chance was answered, with the chances of ODD."""
    bits = Fraction(answer[1], answer[2]) * ODD_WHOLE[count]
    if answer[0] != 1 or bits.denominator != 1:
        raise AssertionError("no such chance: %r" % (answer,))
    return function_of_bits(bits.numerator, count)


def begin(functions, count, chances):
    """The calls that hold variables and add functions."""
    return [hold(written(NAMES[:count], chances))] + [add(formula_of(one, NAMES[:count])) for one in functions]


def some_functions(count, many, seed):
    draws = Draws(seed)
    return [function_of_bits(draws.below(2 ** 2 ** count), count) for one in range(many)]


def made(functions, calls_of, count):
    """What functions the calls, told by the functions' numbers, make; each read by its chance."""
    head = begin(functions, count, ODD[count])
    numbers = [answer[1] for answer in told(head)[1:]]
    calls = calls_of(numbers)
    diagrams = [answer[0] for answer in told(head + calls)[len(head):]]
    chances = told(head + calls + [chance(i) for i in diagrams])[len(head) + len(calls):]
    return [read_function(answer, count) for answer in chances]


class SameNumber(unittest.TestCase):
    """Point 1."""

    def test_every_function_of_three_variables_has_a_number_of_its_own(self):
        functions = all_functions(3)
        calls = begin(functions, 3, ODD[3])
        first = told(calls)[1:]
        self.assertEqual(len({answer[1] for answer in first}), 256)
        self.assertEqual(told(calls[:200] + calls[1:200])[200:], first[:199])

    def test_every_function_says_what_was_added(self):
        functions = all_functions(3)
        for part in (functions[:128], functions[128:]):
            calls = begin(part, 3, ODD[3])
            numbers = [answer[1] for answer in told(calls)[1:]]
            chances = told(calls + [chance(i) for i in numbers])[len(calls):]
            self.assertEqual([read_function(answer, 3) for answer in chances], part)

    def test_numbers_are_those_of_the_model(self):
        functions = some_functions(4, 60, 11)
        model = Model(ODD[4])
        expected = [[1, model.make(function)] for function in functions]
        self.assertEqual(told(begin(functions, 4, ODD[4]))[1:], expected)

    def test_unlike_formulas_of_one_function(self):
        groups = [("and(a, b)", "not(or(not(a), not(b)))", "if(a, b, false)", "and(b, and(a, b))"),
                  ("eq(a, b)", "if(a, b, not(b))", "or(and(a, b), and(not(a), not(b)))", "not(eq(a, not(b)))"),
                  ("true", "or(a, not(a))", "eq(c, c)", "if(a, true, true)", "not(false)"),
                  ("false", "and(c, not(c))", "eq(b, not(b))", "if(b, false, false)"),
                  ("c", "if(a, c, c)", "not(not(c))", "or(and(c, a), and(c, not(a)))", "eq(c, true)")]
        calls = [hold("a:1/2, b:1/3, c:1/4")] + [add(text) for group in groups for text in group]
        found = told(calls)[1:]
        numbers = []
        for group in groups:
            part = found[:len(group)]
            found = found[len(group):]
            self.assertEqual(part, [part[0]] * len(group))
            numbers.append(part[0][1])
        self.assertEqual(len(set(numbers)), len(groups))
        self.assertEqual(numbers[2:4], [1, 0])


class MadeFor(unittest.TestCase):
    """Point 2."""

    def setUp(self):
        self.functions = some_functions(4, 9, 5) + [function_of_bits(0, 4), function_of_bits(65535, 4),
                                                    Model(ODD[4]).variable(2)]
        self.rows = list(itertools.product((0, 1), repeat=4))
        self.model = Model(ODD[4])

    def pairs(self):
        return list(itertools.product(range(len(self.functions)), repeat=2))

    def test_both(self):
        rules = [lambda a, b: a and b, lambda a, b: a or b, lambda a, b: a ^ b, lambda a, b: (1 - a) or b]
        for k, rule in enumerate(rules):
            found = made(self.functions, lambda n: [both(k, n[i], n[j]) for i, j in self.pairs()], 4)
            expected = [tuple(rule(a, b) for a, b in zip(self.functions[i], self.functions[j]))
                        for i, j in self.pairs()]
            self.assertEqual(found, expected)

    def test_not(self):
        found = made(self.functions, lambda n: [other(i) for i in n], 4)
        self.assertEqual(found, [tuple(1 - a for a in one) for one in self.functions])

    def test_choose(self):
        places = [(i, j, (2 * i + 3 * j + 1) % len(self.functions)) for i, j in self.pairs()]
        found = made(self.functions, lambda n: [choose(n[i], n[j], n[k]) for i, j, k in places], 4)
        functions = self.functions
        expected = [tuple(b if a else c for a, b, c in zip(functions[i], functions[j], functions[k]))
                    for i, j, k in places]
        self.assertEqual(found, expected)

    def test_set(self):
        for v, b in itertools.product(range(4), (0, 1)):
            found = made(self.functions, lambda n: [fix(i, v, b) for i in n], 4)
            self.assertEqual(found, [self.model.fixed(one, v, b) for one in self.functions])

    def test_some_and_every(self):
        for v in range(4):
            halves = [(self.model.fixed(one, v, 0), self.model.fixed(one, v, 1)) for one in self.functions]
            found = made(self.functions, lambda n: [some(i, v) for i in n], 4)
            self.assertEqual(found, [tuple(a or b for a, b in zip(no, yes)) for no, yes in halves])
            found = made(self.functions, lambda n: [every(i, v) for i in n], 4)
            self.assertEqual(found, [tuple(a and b for a, b in zip(no, yes)) for no, yes in halves])

    def test_put(self):
        for v in range(4):
            found = made(self.functions, lambda n: [put(n[i], v, n[j]) for i, j in self.pairs()], 4)
            expected = [self.model.put_in(self.functions[i], v, self.functions[j]) for i, j in self.pairs()]
            self.assertEqual(found, expected)

    def test_setting_all_variables_says_yes_or_no(self):
        function = self.functions[0]
        head = begin([function], 4, ODD[4])
        for row, truth in zip(self.rows, function):
            calls = list(head)
            for v, b in enumerate(row):
                calls.append(fix(told(calls)[-1][-1], v, b))
            self.assertEqual(told(calls)[-1], [truth])


class Chances(unittest.TestCase):
    """Points 3, 4 and 5."""

    CHANCES = ["1/2", "2/7", "0", "999999999/1000000000", "4/6"]

    def setUp(self):
        self.functions = some_functions(5, 25, 77)
        self.head = begin(self.functions, 5, self.CHANCES)
        self.numbers = [answer[1] for answer in told(self.head)[1:]]
        self.model = Model(self.CHANCES)

    def chances_of(self, makes):
        """The chances of what these calls make."""
        calls = self.head + makes
        diagrams = [answer[0] for answer in told(calls)[len(self.head):]]
        found = told(calls + [chance(i) for i in diagrams])[len(calls):]
        return [Fraction(answer[1], answer[2]) for answer in found]

    def test_a_chance_is_the_sum_over_all_truths(self):
        found = told(self.head + [chance(i) for i in self.numbers])[len(self.head):]
        expected = [self.model.chance(one) for one in self.functions]
        self.assertEqual(found, [[1, one.numerator, one.denominator] for one in expected])

    def test_a_function_and_its_other_truth_add_up_to_1(self):
        ones = self.chances_of([other(other_one) for other_one in self.numbers])
        for function, rest in zip(self.functions, ones):
            self.assertEqual(self.model.chance(function) + rest, 1)
        self.assertEqual(told(self.head + [chance(0), chance(1)])[-2:], [[1, 0, 1], [1, 1, 1]])

    def test_one_or_the_other_and_both_add_up(self):
        pairs = list(zip(self.numbers, self.numbers[1:]))
        single = self.chances_of([both(0, i, i) for i in self.numbers])
        conjunctions = self.chances_of([both(0, i, j) for i, j in pairs])
        disjunctions = self.chances_of([both(1, i, j) for i, j in pairs])
        for place in range(len(pairs)):
            self.assertEqual(conjunctions[place] + disjunctions[place], single[place] + single[place + 1])

    def test_a_function_is_its_variables_mixture(self):
        whole = self.chances_of([both(0, i, i) for i in self.numbers])
        for v, text in enumerate(self.CHANCES):
            with_false = self.chances_of([fix(i, v, 0) for i in self.numbers])
            with_true = self.chances_of([fix(i, v, 1) for i in self.numbers])
            share = Fraction(text)
            mixed = [share * yes + (1 - share) * no for yes, no in zip(with_true, with_false)]
            self.assertEqual(mixed, whole)

    def test_numbers_beyond_ten_to_the_eighteenth(self):
        names = ["v%d" % v for v in range(12)]
        below = 999999937
        text = ", ".join("%s : %d/%d" % (name, below - 2 - v, below) for v, name in enumerate(names))
        formula = names[11]
        product = below - 2 - 11
        for v in range(10, -1, -1):
            formula = "and(%s, %s)" % (names[v], formula)
            product *= below - 2 - v
        self.assertEqual(told([hold(text), add(formula), chance(13)])[1:], [[1, 13], [1, product, below ** 12]])

    def test_sure_variables(self):
        calls = [hold("a : 0, b : 1, c : 7/7, d : 0/9"), add("a"), add("b"), add("c"), add("d"), add("and(b, c)"),
                 chance(2), chance(3), chance(4), chance(5), chance(6)]
        self.assertEqual(told(calls)[-5:], [[1, 0, 1], [1, 1, 1], [1, 1, 1], [1, 0, 1], [1, 1, 1]])


class HangsOn(unittest.TestCase):
    """Point 6, by what the diagrams say for all truths."""

    def said(self, head, numbers, count):
        """For each diagram what it says for every list of truths, as the program says it."""
        rows = list(itertools.product((0, 1), repeat=count))
        found = []
        for number in numbers:
            answer = told(head + [says(number, row) for row in rows])[len(head):]
            found.append({row: one[0] for row, one in zip(rows, answer)})
        return found

    def check(self, functions, count):
        head = begin(functions, count, ["1/%d" % (v + 2) for v in range(count)])
        numbers = [answer[1] for answer in told(head)[1:]]
        found = told(head + [hangs(i) for i in numbers])[len(head):]
        for function, answer, table in zip(functions, found, self.said(head, numbers, count)):
            self.assertEqual(tuple(table.values()), function)
            self.assertEqual(answer[1:], sorted(set(answer[1:])))
            self.assertEqual(answer[0], len(answer) - 1)
            for v in range(count):
                changed = [row for row in table if table[row] != table[row[:v] + (1 - row[v],) + row[v + 1:]]]
                self.assertEqual(v in answer[1:], changed != [], (function, v))

    def test_every_function_of_one_and_two_variables(self):
        self.check(all_functions(1), 1)
        self.check(all_functions(2), 2)

    def test_every_function_of_three_variables(self):
        functions = all_functions(3)
        self.check(functions[:128], 3)
        self.check(functions[128:], 3)

    def test_functions_of_five_variables(self):
        model = Model(["1/2"] * 5)
        loose = [model.fixed(model.fixed(one, turn % 5, 1), turn % 3, 0)
                 for turn, one in enumerate(some_functions(5, 20, 9))]
        self.check(some_functions(5, 10, 8) + loose + [model.variable(v) for v in range(5)], 5)


class LikeTheModel(unittest.TestCase):
    """Long lists of calls, with good and bad arguments, answered as the model answers them."""

    def draw_call(self, draws, model):
        far = [-10 ** 18, -1, model.count, len(model.nodes) + 2, 10 ** 18]

        def diagram():
            return far[draws.below(5)] if draws.below(25) == 0 else draws.below(len(model.nodes) + 2)

        def small(bound):
            return far[draws.below(5)] if draws.below(25) == 0 else draws.below(bound)

        def row(bound):
            return [small(bound) for step in range(model.count + (draws.below(25) == 0))]

        def order():
            numbers = list(range(model.count))
            shuffled = [numbers.pop(draws.below(len(numbers))) for step in range(model.count)]
            return shuffled if draws.below(10) else row(model.count)

        forms = [lambda: both(small(4), diagram(), diagram()), lambda: other(diagram()),
                 lambda: choose(diagram(), diagram(), diagram()),
                 lambda: fix(diagram(), small(model.count), small(2)), lambda: some(diagram(), small(model.count)),
                 lambda: every(diagram(), small(model.count)),
                 lambda: put(diagram(), small(model.count), diagram()), lambda: chance(diagram()),
                 lambda: given(diagram(), diagram()), lambda: ways(diagram()), lambda: node(diagram()),
                 lambda: nodes(diagram()), lambda: hangs(diagram()), lambda: says(diagram(), row(2)),
                 lambda: listed(diagram(), small(12)), lambda: best(diagram()), lambda: size_by(diagram(), order()),
                 sizes]
        return forms[draws.below(len(forms))]()

    def test_lists_of_calls(self):
        for count, seed in itertools.product((1, 2, 3, 4, 5, 6), (1, 2, 3)):
            draws = Draws(10 * seed + count)
            names = ["v%d" % v for v in range(count)]
            chances = [["%d/%d" % (v + 1, 2 * v + 3), "1/2", "%d/2" % (v % 3)][seed - 1] for v in range(count)]
            model = Model(chances)
            calls = [hold(written(names, chances))] + [add(name) for name in names]
            expected = [[1]] + [[1, model.make(model.variable(v))] for v in range(count)]
            while len(calls) < 400:
                calls.append(self.draw_call(draws, model))
                expected.append(model.answer(calls[-1]))
            self.assertEqual(told(calls), expected)


if __name__ == "__main__":
    unittest.main()
