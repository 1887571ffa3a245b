"""Formulas: what they say, and each fault with its place."""

import unittest

from tests.support import RULES, Draws, Model, add, chance, hold, told, tree_function, tree_text

HEAD = hold("a : 1/2, b : 1/3, c : 1/4")


def nested(depth, inner="a"):
    """A formula that is so deep."""
    return "not(" * (depth - 1) + inner + ")" * (depth - 1)


def draw_tree(draws, names, depth):
    if depth == 1 or draws.below(5) == 0:
        return (["true", "false"] + names)[draws.below(2 + len(names))]
    word = sorted(RULES)[draws.below(len(RULES))]
    return (word,) + tuple(draw_tree(draws, names, depth - 1) for part in range(RULES[word][0]))


class FormulaFaults(unittest.TestCase):

    def check(self, cases, head=HEAD):
        for text, code, place in cases:
            with self.subTest(text=text):
                self.assertEqual(told([head, add(text)]), [[1], [0, code, place]])

    def test_length(self):
        self.check([("a".ljust(4097), 1, 4096), ("?" * 8192, 1, 4096), ("a".ljust(4095) + "?", 2, 4095),
                    (" " * 4096, 3, 4096)])
        self.assertEqual(told([HEAD, add("a".ljust(4096)), add("a#".ljust(4096, "("))]), [[1], [1, 2], [1, 2]])

    def test_no_token(self):
        self.check([("?", 2, 0), ("and(a, b) ?", 2, 10), ("x(y -", 2, 4), ("a & b", 2, 2), ("01", 2, 0),
                    ("and(a, -0)", 2, 7), ("abcdefghijklmnopq", 2, 0), ("not(a)!", 2, 6), (nested(30) + "?", 2, 146)])

    def test_the_end_where_more_is_due(self):
        self.check([("", 3, 0), ("  ", 3, 2), ("# a", 3, 3), ("not(", 3, 4), ("not(a", 3, 5), ("and(a", 3, 5),
                    ("and(a,", 3, 6), ("and(a, b", 3, 8), ("if", 3, 2), ("if(a, b", 3, 7), ("if(a, b, c # )", 3, 14)])

    def test_a_token_that_is_not_allowed(self):
        self.check([("1", 3, 0), ("(a)", 3, 0), (")", 3, 0), ("a b", 3, 2), ("a)", 3, 1), ("a, b", 3, 1),
                    ("not()", 3, 4), ("not(a, b)", 3, 5), ("and(a)", 3, 5), ("and(a, b, c)", 3, 8), ("and(a b)", 3, 6),
                    ("and(,)", 3, 4), ("and(a, )", 3, 7), ("if(a, b)", 3, 7), ("if(a, b, c, a)", 3, 10),
                    ("if a", 3, 3), ("if, a", 3, 2), ("if)", 3, 2), ("not(a))", 3, 6), ("and[a, b]", 6, 0),
                    ("a -> b", 3, 2), ("eq(a, 1)", 3, 6), ("or(a; b)", 3, 4), ("true false", 3, 5), ("not(a) b", 3, 7)])

    def test_words_that_are_no_names(self):
        for word in ["chance", "budget", "def", "let", "observe", "tell", "table", "net", "flag", "num", "flip",
                     "pick", "uniform", "given", "weigh"]:
            self.check([(word, 3, 0), ("not(%s)" % word, 3, 4), (word + "(a)", 3, 0)])

    def test_true_and_false_with_a_bracket_behind(self):
        self.check([("true(a)", 3, 4), ("false (a)", 3, 6), ("and(true(a), b)", 3, 8)])

    def test_a_name_with_a_bracket_behind(self):
        self.check([("a(b)", 3, 0), ("x(a)", 3, 0), ("not(xor(a, b))", 3, 4), ("and(a, b (c))", 3, 7),
                    ("x # remark\n (", 3, 0), ("Not(a)", 3, 0), ("a(", 3, 0)])

    def test_a_name_that_no_variable_has(self):
        self.check([("x", 6, 0), ("and(a, x)", 6, 7), ("A", 6, 0), ("not", 6, 0), ("not a", 6, 0), ("and", 6, 0),
                    ("or, eq", 6, 0), ("and(eq, a)", 6, 4), ("x y", 6, 0), ("and(x", 6, 4), ("if(x(a), y, z)", 3, 3),
                    ("True", 6, 0), ("a1", 6, 0)])

    def test_whichever_comes_first(self):
        self.check([("and(x, )", 6, 4), ("and(a, , x)", 3, 7), ("and(x(a), y)", 3, 4), ("and(y, x(a))", 6, 4),
                    ("or(x, " + nested(24) + ")", 6, 3), ("or(" + nested(24) + ", x)", 4, 95)])

    def test_a_formula_that_is_24_deep(self):
        self.assertEqual(told([HEAD, add(nested(24)), add(nested(23)), add(nested(24, "true"))]),
                         [[1], [1, 2], [1, 3], [1, 0]])
        deep = "a"
        for step in range(23):
            deep = "if(b, %s, c)" % deep
        self.assertEqual(told([HEAD, add(deep), add("if(b, a, c)")])[1:], [[1, 5], [1, 5]])

    def test_a_formula_that_is_deeper(self):
        self.check([(nested(25), 4, 96), (nested(30), 4, 96), (nested(800), 4, 96), ("not(" * 24, 4, 96),
                    ("not(" * 24 + "   ", 4, 99), ("not(" * 24 + ")", 4, 96), ("not(" * 24 + "  ;", 4, 98),
                    ("not(" * 24 + "x", 4, 96), ("not(" * 24 + "x(", 4, 96), ("not(" * 24 + "7 x", 4, 96),
                    ("not(" * 24 + "# a", 4, 99)])
        self.check([("not(" * 23 + "x", 6, 92), ("not(" * 23 + ")", 3, 92), ("not(" * 23, 3, 92),
                    ("not(" * 23 + "x(", 3, 92), ("not(" * 23 + "if,", 3, 94), ("not(" * 23 + "if(", 4, 95)])

    def test_breadth_is_not_depth(self):
        wide = "a"
        for step in range(4):
            wide = "and(%s, %s)" % (wide, wide)
        self.assertEqual(told([HEAD, add(wide)]), [[1], [1, 2]])

    def test_a_fault_leaves_the_object_as_it_was(self):
        calls = [HEAD, add("a"), add("or(b, x)"), add("and(b, c"), add("?"), chance(3), add("b"), chance(3)]
        self.assertEqual(told(calls)[2:], [[0, 6, 6], [0, 3, 8], [0, 2, 0], [-2], [1, 3], [1, 1, 3]])


class OperatorNames(unittest.TestCase):

    HEAD = hold("not : 1/2, and : 1/3, or : 1/5, eq : 1/7")

    def test_variables_named_like_operators(self):
        calls = [self.HEAD, add("not"), add("and"), add("or"), add("eq"), chance(2), chance(3), chance(4), chance(5)]
        self.assertEqual(told(calls)[1:], [[1, 2], [1, 3], [1, 4], [1, 5], [1, 1, 2], [1, 1, 3], [1, 1, 5], [1, 1, 7]])

    def test_beside_the_operators(self):
        calls = [self.HEAD, add("and(and, or)"), chance(3), add("not(not)"), chance(4), add("eq (eq, eq)"),
                 add("or(not, not(not))"), add("if(not, and, or)")]
        self.assertEqual(told(calls)[1:], [[1, 3], [1, 1, 15], [1, 4], [1, 1, 2], [1, 1], [1, 1], [1, 6]])

    def test_faults(self):
        calls = [self.HEAD, add("not not"), add("not #\n()"), add("and or"), add("eq(not, and or)")]
        self.assertEqual(told(calls)[1:], [[0, 3, 4], [0, 3, 7], [0, 3, 4], [0, 3, 12]])


class WhatFormulasSay(unittest.TestCase):

    def test_each_form(self):
        model = Model(["1/2", "1/3", "1/4"])
        a, b, c = [model.variable(v) for v in range(3)]
        cases = [("true", model.says(1)), ("false", model.says(0)), ("a", a), ("not(a)", tuple(1 - x for x in a)),
                 ("and(a, b)", tuple(x & y for x, y in zip(a, b))), ("or(a, b)", tuple(x | y for x, y in zip(a, b))),
                 ("eq(a, b)", tuple(int(x == y) for x, y in zip(a, b))),
                 ("if(a, b, c)", tuple(y if x else z for x, y, z in zip(a, b, c))),
                 ("if(c, a, b)", tuple(y if x else z for x, y, z in zip(c, a, b)))]
        for text, function in cases:
            with self.subTest(text=text):
                fresh = Model(["1/2", "1/3", "1/4"])
                number = fresh.make(function)
                one = fresh.chance(function)
                self.assertEqual(told([HEAD, add(text), chance(number)])[1:],
                                 [[1, number], [1, one.numerator, one.denominator]])

    def test_blanks_and_remarks(self):
        texts = ["or(and(a,b),c)", " or ( and ( a , b ) , c ) ", "or#(\n(\tand(a,b)\n,c)# end", "#\n\n or(and(a,b),c)"]
        self.assertEqual(told([HEAD] + [add(text) for text in texts])[1:], [[1, 4]] * 4)

    def test_many_formulas(self):
        names = ["a", "b", "and", "not", "x9"]
        text = "a : 1/2, b : 1/3, and : 2/5, not : 5/7, x9 : 1/11"
        for seed, blanks in [(1, ""), (2, " "), (3, "\n# not(\n")]:
            draws = Draws(seed)
            model = Model(["1/2", "1/3", "2/5", "5/7", "1/11"])
            calls = [hold(text)]
            expected = [[1]]
            while len(calls) < 60:
                tree = draw_tree(draws, names, 2 + draws.below(4))
                call = add(tree_text(tree, blanks))
                if sum(len(one) for one in calls) + len(call) > 15000:
                    break
                calls.append(call)
                expected.append([1, model.make(tree_function(tree, names))])
            self.assertGreater(len(calls), 20)
            self.assertEqual(told(calls), expected)


if __name__ == "__main__":
    unittest.main()
