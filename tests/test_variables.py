"""Texts of variables: what is taken, and each fault with its place."""

import unittest

from tests.support import add, chance, hold, last, told


def names_text(count):
    return ", ".join("v%d : 1/2" % v for v in range(count))


class FaultCases(unittest.TestCase):

    def check(self, cases):
        for text, code, place in cases:
            with self.subTest(text=text):
                self.assertEqual(told([hold(text)]), [[0, code, place]])

    def check_taken(self, texts):
        for text in texts:
            with self.subTest(text=text):
                self.assertEqual(told([hold(text)]), [[1]])


class Length(FaultCases):

    def test_the_longest_text(self):
        text = "a : 1/2"
        self.check_taken([text.ljust(4096), (text + "#").ljust(4096, "x"), text + "\n" * (4096 - len(text))])

    def test_a_longer_text(self):
        text = "a : 1/2"
        self.check([(text.ljust(4097), 1, 4096), ("?" * 4097, 1, 4096), (" " * 8192, 1, 4096),
                    ("#".ljust(4097, "x"), 1, 4096), (";" * 5000, 1, 4096)])

    def test_a_text_of_4096_bytes_has_its_other_faults(self):
        self.check([(" " * 4096, 3, 4096), ("a : 1/2".ljust(4095) + "?", 2, 4095), ("a : 2".ljust(4096), 7, 4)])


class Tokens(FaultCases):

    def test_blanks_and_remarks(self):
        self.check_taken(["a:1/2", " a\t:\n1 / 2 ", "#x\na#y\n:#z\n1#\n/#/\n2#", "a:1/2#", "a:1/2 # the end",
                          "a:1,b:0# ## \n#\n", b"a:1#\xff\x00\x80\n", "# ?\n a : 1"])

    def test_a_remark_at_the_end(self):
        self.check([("# nothing", 3, 9), ("a # :", 3, 5), ("a : 1, # b : 1", 3, 14), ("a : 1 / # 2\n", 3, 12)])

    def test_no_token(self):
        self.check([("?", 2, 0), ("a : 1/2 ?", 2, 8), ("a . 1", 2, 2), ("a_b : 1", 2, 1), (b"a\x00 : 1", 2, 1),
                    (b"\xe4 : 1", 2, 0), ("a\r: 1", 2, 1), ("a : 1 > 2", 2, 6), ("a : 1 + 2", 2, 6),
                    ("a : 1.5", 2, 5), ("'a' : 1", 2, 0), ("a : 1\x0b", 2, 5), ("a : @", 2, 4), ("a : 1 [`", 2, 7),
                    ("a : ~", 2, 4)])

    def test_all_signs_are_tokens(self):
        for sign in ["=", "{", "}", "(", ")", "[", "]", ",", ";", ":", "/", "|", "->"]:
            self.check([(sign, 3, 0), (" " + sign + " a", 3, 1)])

    def test_words(self):
        self.check_taken(["abcdefghijklmnop : 1", "A123456789012345 : 1", "z : 1, Z : 1", "aA0zZ9 : 1"])
        self.check([("abcdefghijklmnopq : 1", 2, 0), ("a : 1, a2345678901234567 : 1", 2, 7),
                    ("a b : 1", 3, 2), ("a : b", 3, 4)])

    def test_numbers(self):
        self.check_taken(["a : 1/1000000000", "a : 1000000000/1000000000", "a : 0", "a : 0/1000000000"])
        self.check([("a : 1/1000000001", 2, 6), ("a : 1000000001", 2, 4), ("a : -1000000001", 2, 4),
                    ("a : 1000000000", 7, 4), ("a : -1000000000", 7, 4), ("a : 1/-1000000000", 7, 6),
                    ("a : 9999999999", 2, 4), ("a : 10000000000", 2, 4), ("a : " + "9" * 4000, 2, 4),
                    ("a : -" + "1" * 4000, 2, 4)])

    def test_zeros(self):
        self.check([("a : 01", 2, 4), ("a : 00", 2, 4), ("a : -0", 2, 4), ("a : -01", 2, 4), ("a : 1/02", 2, 6),
                    ("a : 1/00000000001", 2, 6)])

    def test_minus_and_arrow(self):
        self.check([("a : -", 2, 4), ("a : - 1", 2, 4), ("a : -x", 2, 4), ("a : ->", 3, 4), ("a -> 1", 3, 2),
                    ("a : -->", 2, 4), ("a : 1-", 2, 5), ("a : 1->", 3, 5), ("a : 1-2", 3, 5), ("->", 3, 0),
                    ("a : 1/->", 3, 6), ("-", 2, 0), ("a : 1 - > 2", 2, 6), ("a : --1", 2, 4)])

    def test_tokens_without_blanks_between(self):
        self.check([("a : 1b", 3, 5), ("a : 0b", 3, 5), ("1a : 1", 3, 0), ("a:1,b:1c", 3, 7)])

    def test_the_first_place_without_a_token_comes_before_the_grammar(self):
        self.check([(": : : ?", 2, 6), ("a : 2, a 01 ?", 2, 9), ("a : 5 / 0 , -", 2, 12), ("b b b 00 -0", 2, 6)])


class Grammar(FaultCases):

    def test_the_end_where_more_is_due(self):
        self.check([("", 3, 0), (" \n", 3, 2), ("a", 3, 1), ("a ", 3, 2), ("a :", 3, 3), ("a : 1/", 3, 6),
                    ("a : 1,", 3, 6), ("a : 1 / ", 3, 8)])

    def test_a_token_that_is_not_allowed(self):
        self.check([("1", 3, 0), ("a 1", 3, 2), ("a = 1", 3, 2), ("a : b", 3, 4), ("a : /", 3, 4), ("a : 1 2", 3, 6),
                    ("a : 1 b", 3, 6), ("a : 1 ;", 3, 6), ("a : 1/2/3", 3, 7), ("a : 1,,", 3, 6),
                    ("a : 1, 2 : 1", 3, 7), (", a : 1", 3, 0), ("a : 1/b", 3, 6), ("a : 1/;", 3, 6),
                    ("a : (1)", 3, 4), ("(a : 1)", 3, 0), ("a : 1 :", 3, 6), ("a :: 1", 3, 3)])

    def test_words_that_are_no_names(self):
        for word in ["chance", "budget", "def", "let", "observe", "tell", "table", "net", "flag", "num", "if",
                     "flip", "pick", "uniform", "given", "weigh", "true", "false"]:
            self.check([(word + " : 1", 3, 0), ("a : 1, " + word + " : 1", 3, 7)])
            self.check_taken([word.upper() + " : 1", word + "1 : 1"])

    def test_operators_are_names(self):
        self.check_taken(["not : 1, and : 0, or : 1/2, eq : 1/3"])

    def test_the_thirteenth_variable(self):
        self.check_taken([names_text(1), names_text(12)])
        text = names_text(12) + ", "
        at = len(text)
        self.check([(names_text(13), 4, at), (text + "w", 4, at), (text + "w ;", 4, at), (text + "v3 : 1", 4, at),
                    (text + "w : 5", 4, at)])
        self.check([(text, 3, at), (text + "5", 3, at), (text + "if : 1", 3, at), (text + ",", 3, at)])

    def test_a_name_that_stands_already(self):
        self.check([("a : 1, a : 1", 5, 7), ("a : 1, b : 0, a : 1", 5, 14), ("a : 1, a", 5, 7), ("a : 1, a ;", 5, 7),
                    ("a : 1, a : 5", 5, 7), ("a:1,b:1,b:1", 5, 8)])

    def test_a_denominator_below_1(self):
        self.check([("a : 1/0", 7, 6), ("a : 0/0", 7, 6), ("a : 1/-2", 7, 6), ("a : -1/0", 7, 7), ("a : 5/0", 7, 6),
                    ("a : -1/-1", 7, 7), ("a : 1 / 0 ;", 7, 8)])

    def test_a_fraction_outside_0_to_1(self):
        self.check([("a : -1", 7, 4), ("a : 2", 7, 4), ("a : 3/2", 7, 4), ("a : -1/2", 7, 4), ("a : 2 ;", 7, 4),
                    ("a : 1, b : 1000000000/999999999", 7, 11), ("a : 2 a", 7, 4), ("a : 3/2/", 7, 4)])

    def test_a_fraction_is_read_to_its_end_first(self):
        self.check([("a : -1/;", 3, 7), ("a : -1/", 3, 7), ("a : 2/b", 3, 6), ("a : 2 / /", 3, 8), ("a : 9/->", 3, 6)])

    def test_whichever_comes_first(self):
        self.check([("a : 2, a : 1", 7, 4), ("a : 1 b : 2", 3, 6), ("a : 1, a : 2, 3", 5, 7),
                    ("a : 1, b : 1/0, b : 1", 7, 13), ("a : 1, b = 1/0", 3, 9)])


class Taken(FaultCases):

    def test_chances_in_other_than_lowest_terms(self):
        text = "a : 2/4, b : 6/9, c : 0/7, d : 5/5, e : 500000000/1000000000"
        calls = [hold(text)] + [add(name) for name in "abcde"] + [chance(i) for i in range(2, 7)]
        self.assertEqual(told(calls)[-5:], [[1, 1, 2], [1, 2, 3], [1, 0, 1], [1, 1, 1], [1, 1, 2]])

    def test_the_order_of_the_text_numbers_the_variables(self):
        calls = [hold("b : 1/3, a : 1/5"), add("and(a, b)")]
        self.assertEqual(told(calls + [[5, 3, 0, 1], chance(2)])[1:], [[1, 3], [2], [1, 1, 5]])

    def test_a_fault_leaves_the_object_as_it_was(self):
        head = [hold("a : 1/2, b : 1/3"), add("and(a, b)")]
        for text in ["", "a : 2", "c : 1/2, c : 1", "?", names_text(13), " " * 4097]:
            calls = head + [hold(text), chance(3), add("and(a, b)"), add("c")]
            self.assertEqual(told(calls)[3:], [[1, 1, 6], [1, 3], [0, 6, 0]])

    def test_a_fault_at_the_beginning_holds_nothing(self):
        self.assertEqual(told([hold("a : 2"), add("a"), chance(0)]), [[0, 7, 4], [-1], [-1]])

    def test_a_second_time_the_new_variables_are_held_with_an_empty_store(self):
        calls = [hold("a : 1/2, b : 1/3"), add("and(a, b)"), chance(3), hold("c : 1/7, a : 1/5"), chance(2),
                 add("b"), add("a"), chance(2), add("c"), chance(3), chance(4)]
        self.assertEqual(told(calls)[2:],
                         [[1, 1, 6], [1], [-2], [0, 6, 0], [1, 2], [1, 1, 5], [1, 3], [1, 1, 7], [-2]])

    def test_the_same_variables_again_empty_the_store(self):
        text = hold("a : 1/2")
        self.assertEqual(told([text, add("a"), text, chance(2), chance(1)])[2:], [[1], [-2], [1, 1, 1]])

    def test_the_end_of_a_text_in_the_middle_of_a_list(self):
        self.assertEqual(last([hold("a : 1/2"), add("a"), chance(2)]), [1, 1, 2])


if __name__ == "__main__":
    unittest.main()
