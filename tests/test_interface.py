"""How calls stand in the list, how answers stand in theirs, and that nothing is changed or kept."""

import contextlib
import io
import unittest

import truthstore.diagrams
from tests.support import (FAR, add, best, both, chance, choose, every, fix, given, hangs, hold, listed, node, nodes,
                           other, put, says, size_by, sizes, some, told, ways)
from truthstore.diagrams import answers

MAKING = [chance(0), hold("a : 1/2, b : 2/6, c : 1/4"), add("or(and(a, b), c)"), both(3, 4, 2), other(4),
          choose(2, 3, 4), fix(4, 1, 0), some(4, 0), every(4, 0), put(4, 2, 3), chance(4), hold("a :"), add("x"),
          both(7, FAR, -FAR), fix(4, 0, FAR), put(4, -FAR, FAR), chance(1)]
MADE = [[-1], [1], [1, 4], [6], [9], [4], [2], [3], [2], [3], [1, 3, 8], [0, 3, 3], [0, 6, 0], [-2], [-5], [-5],
        [1, 1, 1]]
ASKING = [given(2, 4), ways(4), node(4), nodes(4), hangs(4), says(4, [0, 1, 1]), listed(4, 2), best(4),
          size_by(4, [0, 2, 1]), sizes(), given(4, 0), ways(FAR), node(0), nodes(1), hangs(0), says(4, [FAR, -FAR]),
          listed(4, FAR), best(0), size_by(4, [])]
ASKED = [[1, 2, 3], [5], [0, 2, 3], [3, 4, 2, 3], [3, 0, 1, 2], [1], [2, 0, 0, 1, 0, 1, 1], [1, 1, 8, 1, 1, 0], [4],
         [3, 8], [-6], [-2], [-6], [0], [0], [-5], [-5], [-6], [-5]]
EVERY_CALL = MAKING + ASKING


def flat(calls):
    return [number for call in calls for number in call]


class Form(unittest.TestCase):

    def test_the_function_is_in_its_module(self):
        self.assertIs(truthstore.diagrams.answers, answers)

    def test_counts_stand_before_the_answers(self):
        line = [0, 7, 97, 32, 58, 32, 49, 47, 50, 1, 1, 97, 9, 2, 3, 2, 9, 5, 1, 0, 5, 2, 0, 1, 2, 0, 2, 3]
        self.assertEqual(answers(line), [1, 1, 2, 1, 2, 3, 1, 1, 2, 1, 3, 1, -2, 3, 0, 3, 0, 1, 1, 1, 0])

    def test_one_call(self):
        self.assertEqual(answers([9, 0]), [1, -1])
        self.assertEqual(answers([0, 0]), [3, 0, 3, 0])
        self.assertEqual(answers([1, 0]), [1, -1])
        self.assertEqual(answers(hold("a:1")), [1, 1])

    def test_texts_that_hold_numbers_of_calls(self):
        line = hold("#\n\t a\t:\n1") + add("\t\n a \t\n") + add("") + chance(2)
        self.assertEqual(answers(line), [1, 1, 2, 1, 2, 3, 0, 3, 0, 3, 1, 1, 1])

    def test_each_call(self):
        self.assertEqual(told(EVERY_CALL), MADE + ASKED)
        self.assertEqual({call[0] for call in EVERY_CALL}, set(range(20)))

    def test_whole_numbers_in_a_list(self):
        found = answers(flat(EVERY_CALL))
        self.assertIs(type(found), list)
        self.assertEqual({type(number) for number in found}, {int})

    def test_400_calls(self):
        self.assertEqual(told([hold("a : 1/2")] + [add("a")] * 399), [[1]] + [[1, 2]] * 399)

    def test_a_list_of_16000_numbers(self):
        line = hold("a : 1/2") + add("a".ljust(4096)) + add("not(a)#".ljust(4096, "(")) + add(" " * 4096)
        last_length = 16000 - len(line) - 2
        line = line + add("#" * last_length)
        self.assertEqual(len(line), 16000)
        self.assertEqual(answers(line), [1, 1, 2, 1, 2, 2, 1, 3, 3, 0, 3, 4096, 3, 0, 3, last_length])

    def test_no_counts_but_those_that_are_told(self):
        line = [0, 11] + list(b"a:1/2,b:1/3") + [1, 8] + list(b"or(a, b)") + [13, 3, 14, 3, 16, 3, 2, 17, 3, 19]
        self.assertEqual(answers(line), [1, 1, 2, 1, 3, 3, 2, 3, 2, 3, 2, 0, 1, 5, 2, 0, 1, 1, 0, 5, 1, 1, 3, 1, 0,
                                         2, 2, 2])

    def test_rows_that_hold_numbers_of_calls(self):
        line = hold("a : 1/2, b : 1/3") + [15, 1, 2, 0, 1, 18, 1, 2, 1, 0, 15, 1, 0, 18, 1, 0, 15, 1, 3, 19, 19, 19, 19]
        self.assertEqual(answers(line), [1, 1, 1, 1, 1, 0, 1, -5, 1, -5, 1, -5, 2, 2, 0])

    def test_400_calls_with_each_of_them_among(self):
        calls = EVERY_CALL + [call for step in range(30) for call in ASKING][:400 - len(EVERY_CALL)]
        expected = MADE + ASKED + [answer for step in range(30) for answer in ASKED][:400 - len(EVERY_CALL)]
        self.assertEqual(len(calls), 400)
        before = flat(calls)
        line = list(before)
        self.assertEqual(told(calls), expected)
        answers(line)
        self.assertEqual(line, before)

    def test_16000_numbers_with_each_call_among(self):
        long_rows = [says(4, [1] * 2000), size_by(4, list(range(2000))), says(9, [FAR] * 2000),
                     size_by(-1, [-FAR] * 2000), add("a".ljust(4096))]
        calls = EVERY_CALL + long_rows
        left = 16000 - len(flat(calls)) - 3
        calls = calls + [says(0, [0] * 1500), size_by(1, [2] * (left - 1503))]
        line = flat(calls)
        before = list(line)
        self.assertEqual(len(line), 16000)
        self.assertEqual(told(calls), MADE + ASKED + [[-5], [-5], [-5], [-2], [1, 10], [-5], [-5]])
        answers(line)
        self.assertEqual(line, before)

    def test_a_million_numbers_may_be_answered(self):
        names = ["v%d" % v for v in range(12)]
        text = ", ".join("%s : 1/2" % name for name in names)
        found = answers(hold(text) + listed(1, 200) * 399)
        self.assertEqual(len(found), 2 + 399 * 2402)
        self.assertEqual(found[2:2404], found[-2402:])

    def test_texts_of_8192_bytes(self):
        for byte in (0, 32, 35, 40, 65, 255):
            self.assertEqual(told([hold([byte] * 8192)]), [[0, 1, 4096]])

    def test_long_tokens_and_remarks(self):
        for byte, fault in [(35, [3, 4096]), (32, [3, 4096]), (65, [2, 0]), (49, [2, 0]), (48, [2, 0]), (45, [2, 0]),
                            (40, [3, 0]), (58, [3, 0]), (0, [2, 0]), (255, [2, 0])]:
            self.assertEqual(told([hold([byte] * 4096)]), [[0] + fault])


class NothingKept(unittest.TestCase):

    def test_what_is_handed_in_stays_as_it_was(self):
        line = flat(EVERY_CALL)
        before = list(line)
        answers(line)
        self.assertEqual(line, before)

    def test_it_is_not_changed_for_a_while_either(self):
        class Frozen(list):
            def refuse(self, *args):
                raise AssertionError("changed")
            __setitem__ = __delitem__ = __iadd__ = __imul__ = refuse
            append = extend = insert = pop = remove = clear = sort = reverse = refuse

        self.assertEqual(answers(Frozen(flat(EVERY_CALL))), answers(flat(EVERY_CALL)))

    def test_a_second_time_the_same_is_answered(self):
        line = flat(EVERY_CALL)
        first = answers(line)
        kept = list(first)
        self.assertEqual(answers(line), kept)
        self.assertIsNot(answers(line), first)
        first.clear()
        self.assertEqual(answers(line), kept)

    def test_variables_and_store_are_new_each_time(self):
        answers(hold("a : 1/2, b : 1/3") + add("and(a, b)"))
        self.assertEqual(told([add("a"), chance(0)]), [[-1], [-1]])
        self.assertEqual(told([hold("a : 1/2, b : 1/3"), chance(2), add("a")]), [[1], [-2], [1, 2]])

    def test_nothing_is_printed(self):
        printed = io.StringIO()
        with contextlib.redirect_stdout(printed), contextlib.redirect_stderr(printed):
            answers(flat(EVERY_CALL))
        self.assertEqual(printed.getvalue(), "")


if __name__ == "__main__":
    unittest.main()
