"""Refusals: each of them, their order, and that they leave the object as it was."""

import copy
import itertools
import unittest

from tests.support import (FAR, Model, add, best, both, chance, choose, every, fix, given, hangs, hold, listed, node,
                           nodes, other, put, says, size_by, sizes, some, told, ways, written)

HEAD = [hold("a : 1/2, b : 1/3, c : 1/4"), add("or(and(a, b), c)")]
NO_DIAGRAMS = (-FAR, -3, -1, 5, 6, 3002, FAR)
NO_VARIABLES = (-FAR, -1, 3, 12, FAR)


class Cases(unittest.TestCase):

    def check(self, number, calls):
        """Each of the calls is refused so, and what comes behind is answered as if it had not been."""
        behind = [sizes(), nodes(4), add("c"), chance(4), add("and(a, c)"), chance(5), sizes()]
        expected = told(HEAD + behind)[len(HEAD):]
        for call in calls:
            with self.subTest(call=call):
                self.assertEqual(told(HEAD + [call] + behind)[len(HEAD):], [[number]] + expected)


class NoVariables(unittest.TestCase):

    def test_every_call_but_vars(self):
        calls = [add("a"), add(""), add("?"), add("true"), both(0, 0, 0), both(9, 7, 7), other(0), other(-1),
                 choose(0, 0, 0), choose(5, 5, 5), fix(0, 0, 0), fix(-1, -1, 7), some(0, 0), some(9, 9), every(1, 0),
                 every(9, 9), put(0, 0, 0), put(9, 9, 9), chance(0), chance(1), chance(-1), add("a" * 5000)]
        self.assertEqual(told(calls), [[-1]] * len(calls))

    def test_every_call_that_makes_nothing(self):
        calls = [given(0, 0), given(1, 1), given(9, -1), ways(0), ways(2), node(0), node(2), nodes(1), nodes(-FAR),
                 hangs(0), hangs(7), says(0, []), says(1, [1]), says(9, [7] * 2000), listed(1, 1), listed(0, 201),
                 listed(9, -1), best(0), best(1), best(2), size_by(0, []), size_by(1, [0]), size_by(9, [9] * 2000),
                 sizes()]
        self.assertEqual(told(calls), [[-1]] * len(calls))

    def test_a_fault_of_variables_holds_none(self):
        calls = [hold("a : 2"), sizes(), says(9, [FAR] * 2000), hold("a : 1/2"), sizes(), says(1, [1])]
        self.assertEqual(told(calls), [[0, 7, 4], [-1], [-1], [1], [1, 0], [1]])

    def test_then_they_are_held(self):
        self.assertEqual(told([chance(1), hold("a : 1/2"), chance(1)]), [[-1], [1], [1, 1, 1]])


class NoDiagram(Cases):

    def test_each_diagram_of_each_call(self):
        for bad in NO_DIAGRAMS:
            self.check(-2, [both(0, bad, 2), both(1, 2, bad), both(2, bad, bad), other(bad), choose(bad, 2, 3),
                            choose(2, bad, 3), choose(2, 3, bad), fix(bad, 0, 0), some(bad, 0), every(bad, 0),
                            put(bad, 0, 2), put(2, 0, bad), chance(bad)])

    def test_each_diagram_of_each_call_that_makes_nothing(self):
        for bad in NO_DIAGRAMS:
            self.check(-2, [given(bad, 4), given(4, bad), given(bad, bad), ways(bad), node(bad), nodes(bad),
                            hangs(bad), says(bad, [0, 0, 0]), listed(bad, 1), best(bad), size_by(bad, [0, 1, 2])])

    def test_the_least_and_the_greatest_are_there(self):
        calls = [chance(0), chance(4), other(0), other(1), choose(1, 4, 0), both(1, 0, 4), put(4, 0, 1)]
        self.assertEqual(told(HEAD + calls)[2:], [[1, 0, 1], [1, 3, 8], [1], [0], [4], [4], [3]])

    def test_before_other_refusals(self):
        self.check(-2, [both(4, 9, 2), both(-1, 2, 9), fix(9, 9, 9), fix(9, 0, 9), fix(-1, -1, 0), some(9, 9),
                        every(9, -1), put(9, 9, 9), put(-1, 9, 2), both(FAR, -FAR, FAR)])

    def test_before_the_refusals_of_calls_that_make_nothing(self):
        for bad in (9, -1, FAR, -FAR):
            self.check(-2, [given(bad, 0), given(0, bad), given(1, bad), given(bad, bad), says(bad, []),
                            says(bad, [2, 2, 2]), says(bad, [1] * 2000), listed(bad, 201), listed(bad, -1),
                            size_by(bad, []), size_by(bad, [0, 0, 0]), size_by(bad, [FAR] * 2000)])

    def test_a_node_of_an_earlier_store_is_gone(self):
        head = HEAD + [hold("a : 1/2, b : 1/3, c : 1/4")]
        calls = [given(4, 1), given(1, 4), given(0, 2), ways(4), node(4), nodes(4), hangs(2), says(2, [1, 1, 1]),
                 listed(4, 5), best(3), size_by(4, [0, 1, 2])]
        self.assertEqual(told(head + calls)[3:], [[-2]] * len(calls))


class NoVariableOrChoice(Cases):

    def test_each_variable_of_each_call(self):
        for bad in NO_VARIABLES:
            self.check(-5, [fix(4, bad, 0), fix(4, bad, 1), fix(0, bad, 5), some(4, bad), every(4, bad),
                            put(4, bad, 2), some(0, bad), every(1, bad)])

    def test_other_choices(self):
        for bad in (-FAR, -1, 4, 5, FAR):
            self.check(-5, [both(bad, 4, 2), both(bad, 0, 1)])
        for bad in (-FAR, -1, 2, FAR):
            self.check(-5, [fix(4, 0, bad), fix(1, 2, bad)])

    def test_rows_and_bounds(self):
        for i in (0, 1, 2, 4):
            self.check(-5, [says(i, []), says(i, [0, 1]), says(i, [0, 1, 0, 1]), says(i, [0, 1, 2]),
                            says(i, [-1, 0, 0]), says(i, [0, FAR, 0]), says(i, [0] * 2000), listed(i, -1),
                            listed(i, 201), listed(i, FAR), listed(i, -FAR), size_by(i, []), size_by(i, [0, 1]),
                            size_by(i, [0, 1, 1]), size_by(i, [1, 2, 3]), size_by(i, [0, 1, 2, 3]),
                            size_by(i, [-1, 0, 1]), size_by(i, [0] * 2000)])

    def test_put_looks_at_the_variable_before_its_second_diagram(self):
        self.check(-5, [put(4, 3, 9), put(4, -1, -1), put(0, FAR, FAR), put(2, -FAR, -FAR)])
        self.check(-2, [put(4, 2, 9), put(9, 3, 9), put(9, 3, 2)])

    def test_the_first_and_the_last_variable_are_there(self):
        calls = [fix(4, 0, 1), some(4, 2), every(4, 2), put(4, 2, 0), fix(4, 2, 0)]
        model = Model(["1/2", "1/3", "1/4"])
        a, b, c = [model.variable(v) for v in range(3)]
        model.make(tuple((x & y) | z for x, y, z in zip(a, b, c)))
        self.assertEqual(told(HEAD + calls)[2:], [model.answer(call) for call in calls])


class NothingToTell(Cases):

    def test_each_call(self):
        self.check(-6, [given(4, 0), given(0, 0), given(1, 0), given(2, 0), node(0), node(1), best(0)])

    def test_what_is_there_is_told(self):
        calls = [given(4, 1), given(4, 2), node(2), best(1), best(2)]
        self.assertEqual(told(HEAD + calls)[2:], [[1, 3, 8], [1, 1, 1], [2, 0, 1], [2, 1, 4, 0, 0, 0],
                                                  [2, 1, 12, 0, 0, 1]])

    def test_given_looks_at_both_diagrams_first(self):
        self.check(-2, [given(5, 0), given(-1, 0), given(0, 5), given(5, 5)])


class FullStore(unittest.TestCase):
    """A list of calls on twelve variables that brings the store to 2998 nodes, and what comes behind."""

    NAMES = ["v%d" % v for v in range(12)]
    CHANCES = ["1/2"] * 12
    ONE = "if(v0, v6, v2)"
    TWO = "if(v0, if(v1, v4, v7), v9)"
    THREE = "if(v0, if(v1, v3, v8), if(v1, v5, v2))"

    @classmethod
    def setUpClass(cls):
        cls.model = Model(cls.CHANCES)
        cls.calls = [hold(written(cls.NAMES, cls.CHANCES))]
        cls.expected = [[1]]
        # The first variable comes last, so that the diagrams 2 to 12 don't ask it and 13 is the variable itself.
        for v in list(range(1, 12)) + [0]:
            cls.calls.append(add(cls.NAMES[v]))
            cls.expected.append([1, cls.model.make(cls.model.variable(v))])
        cls.fill_roughly()
        cls.fill_by_single_nodes()

    @classmethod
    def take(cls, call):
        cls.calls.append(call)
        cls.expected.append(cls.model.answer(call))

    @classmethod
    def fill_roughly(cls):
        """Large diagrams: pairs of variables that stand far apart, added up in one way and another."""
        sums = []
        for turn in range(5):
            pairs = [both(0, 2 + v, 7 + (v + turn) % 5) for v in range(5)]
            for call in pairs:
                cls.take(call)
            numbers = [answer[0] for answer in cls.expected[-5:]]
            for number in numbers[1:]:
                cls.take(both(1, numbers[0], number))
                numbers[0] = cls.expected[-1][0]
            sums.append(numbers[0])
        cls.take_while_there_is_room(choose(i, j, k) for i, j, k in itertools.permutations(sums, 3))
        large = [answer[0] for answer in cls.expected[-8:]]
        cls.take_while_there_is_room(both(2, i, j) for i, j in itertools.combinations(large, 2))

    @classmethod
    def take_while_there_is_room(cls, calls):
        for call in calls:
            room = 2950 - len(cls.model.nodes)
            if room > 200 and len(cls.model.draft(cls.model.makes(call))[1]) < room:
                cls.take(call)

    @classmethod
    def fill_by_single_nodes(cls):
        for high in range(20, 600):
            call = choose(13, high, 3)
            if len(cls.model.nodes) < 2998 and len(cls.model.draft(cls.model.makes(call))[1]) == 1:
                cls.take(call)

    def check(self, calls, expected):
        self.assertEqual(told(self.calls + calls), self.expected + expected)

    def test_the_way_there(self):
        self.check([chance(2999), chance(3000)], [self.model.answer(chance(2999)), [-2]])

    def test_3000_nodes_and_no_more(self):
        self.check([add(self.TWO), chance(3002), add(self.TWO), add(self.ONE), add("v3")],
                   [[1, 3001], [-2], [1, 3001], [-3], [1, 4]])

    def test_a_refusal_puts_none_of_the_nodes(self):
        self.check([add(self.THREE), chance(3000), add(self.THREE), add(self.ONE), add(self.TWO), chance(3001),
                    add("if(v0, v2, v6)"), chance(3001), add(self.ONE)],
                   [[-3], [-2], [-3], [1, 3000], [-3], [-2], [1, 3001], [1, 1, 2], [1, 3000]])

    def find(self, calls):
        """The first of the calls that needs a node more than there is room for, by the model at 3000 nodes."""
        for call in calls:
            if self.model.answer(call) == [-3]:
                return call
        raise AssertionError("no such call")

    def test_each_call_at_3000_nodes(self):
        full = [choose(13, 2, 9), choose(13, 9, 2)]
        self.model = copy.deepcopy(self.model)
        self.assertEqual([self.model.answer(call) for call in full], [[3000], [3001]])
        numbers = range(500, 3002)
        found = [self.find(both(k, i, 3) for i in numbers) for k in range(4)]
        found.append(self.find(other(i) for i in numbers))
        found.append(self.find(choose(13, i, 5) for i in numbers))
        found.append(self.find(fix(i, 6, 1) for i in numbers))
        found.append(self.find(some(i, 6) for i in numbers))
        found.append(self.find(every(i, 6) for i in numbers))
        found.append(self.find(put(i, 6, 4) for i in numbers))
        found.append(add(self.ONE))
        self.check(full + found + [chance(3001), chance(3002)],
                   [[3000], [3001]] + [[-3]] * len(found) + [[1, 1, 2], [-2]])

    def test_refused_last_of_all(self):
        head = [add(self.TWO)]
        calls = [both(4, 13, 20), both(1, 3002, 20), choose(13, 20, 3002), fix(2900, 12, 1), fix(2900, 6, 2),
                 put(2900, 12, 4), put(2900, 6, 3002), some(3002, 1), every(2900, -1), add("if(v0, v6, v2"),
                 add("if(v0, v6, x)")]
        self.check(head + calls, [[1, 3001], [-5], [-2], [-2], [-5], [-5], [-5], [-2], [-2], [-5], [0, 3, 13],
                                  [0, 6, 11]])

    def test_what_stands_there_is_still_found(self):
        self.check([add(self.TWO), both(0, 2, 2), both(1, 3001, 0), other(0), choose(1, 2000, 7), fix(3001, 0, 0),
                    put(13, 0, 5), some(2, 1), add(self.ONE)],
                   [[1, 3001], [2], [3001], [1], [2000], [10], [5], [1], [-3]])

    def test_new_variables_empty_a_full_store(self):
        self.check([add(self.TWO), add(self.ONE), hold("a : 1/2"), add("a"), chance(3)],
                   [[1, 3001], [-3], [1], [1, 2], [-2]])

    def test_calls_that_make_nothing_need_no_room(self):
        self.model = copy.deepcopy(self.model)
        full = [choose(13, 2, 9), choose(13, 9, 2)]
        self.assertEqual([self.model.answer(call) for call in full], [[3000], [3001]])
        # What these two say together would need nodes of its own.
        pair = self.find(both(0, i, 3001) for i in range(2999, 500, -1))[2:]
        calls = [sizes(), given(pair[0], pair[1]), given(pair[1], pair[0]), ways(3001), node(3001), nodes(3001),
                 hangs(3001), says(3001, [1, 0] * 6), listed(3001, 200), best(3001), sizes()]
        self.check(full + calls, [[3000], [3001]] + [self.model.answer(call) for call in calls])

    def test_the_greatest_diagrams(self):
        large = sorted(range(2, 2999), key=lambda i: self.model.nodes_answer(i)[0])[-8:]
        orders = [list(range(11, -1, -1)), [0, 6, 1, 7, 2, 8, 3, 9, 4, 10, 5, 11]]
        calls = [call for i in large for call in (nodes(i), hangs(i), ways(i))]
        calls += [size_by(i, order) for i in large[-2:] for order in orders]
        calls += [best(large[-1]), listed(large[-1], 200), given(large[-1], large[-2])]
        self.check(calls, [self.model.answer(call) for call in calls])

    def test_a_fault_of_variables_keeps_a_full_store(self):
        self.check([add(self.TWO), hold("a : 2"), add(self.ONE), chance(3001)],
                   [[1, 3001], [0, 7, 4], [-3], [1, 1, 2]])


if __name__ == "__main__":
    unittest.main()
