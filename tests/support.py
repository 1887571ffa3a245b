"""What the tests share: calls by name, answers call by call, and a plain model to compare with.

The model follows the document's words and not the program's ways: a function is a tuple of what it says for every
list of truths, and a diagram is made by walking all of them.
"""

import itertools
from fractions import Fraction

from truthstore.diagrams import answers

FAR = 10 ** 18


def text_call(number, text):
    body = list(text.encode("latin-1")) if isinstance(text, str) else list(text)
    return [number, len(body)] + body


def hold(text):
    return text_call(0, text)


def add(text):
    return text_call(1, text)


def both(k, i, j):
    return [2, k, i, j]


def other(i):
    return [3, i]


def choose(i, j, k):
    return [4, i, j, k]


def fix(i, v, b):
    return [5, i, v, b]


def some(i, v):
    return [6, i, v]


def every(i, v):
    return [7, i, v]


def put(i, v, j):
    return [8, i, v, j]


def chance(i):
    return [9, i]


def given(i, j):
    return [10, i, j]


def ways(i):
    return [11, i]


def node(i):
    return [12, i]


def nodes(i):
    return [13, i]


def hangs(i):
    return [14, i]


def says(i, truths):
    return [15, i, len(truths)] + list(truths)


def listed(i, n):
    return [16, i, n]


def best(i):
    return [17, i]


def size_by(i, order):
    return [18, i, len(order)] + list(order)


def sizes():
    return [19]


def told(calls):
    """The answers to a list of calls, a list for each."""
    line = [number for call in calls for number in call]
    if len(calls) > 400 or len(line) > 16000:
        raise AssertionError("more than may be handed in")
    flat = answers(line)
    found = []
    place = 0
    while place < len(flat):
        behind = place + 1 + flat[place]
        found.append(flat[place + 1:behind])
        place = behind
    if len(found) != len(calls) or place != len(flat):
        raise AssertionError("not one answer for each call")
    return found


def last(calls):
    return told(calls)[-1]


class Draws:
    """Numbers that look drawn by chance and are the same every time."""

    def __init__(self, seed):
        self.state = seed

    def below(self, bound):
        self.state = (self.state * 6364136223846793005 + 1442695040888963407) % 2 ** 64
        return (self.state >> 33) % bound


class Model:
    """Variables with these chances, and a store, made as the document says."""

    def __init__(self, chances):
        self.chances = [Fraction(one) for one in chances]
        self.count = len(chances)
        self.rows = list(itertools.product((0, 1), repeat=self.count))
        self.place = {row: place for place, row in enumerate(self.rows)}
        self.nodes = []
        self.numbers = {}
        self.functions = {0: (0,) * len(self.rows), 1: (1,) * len(self.rows)}
        self.row_chances = []

    def variable(self, v):
        return tuple(row[v] for row in self.rows)

    def has(self, i):
        return 0 <= i < 2 + len(self.nodes)

    def says(self, i):
        """The function that a diagram tells, worked out when it is first asked for."""
        if i not in self.functions:
            v, no, yes = self.nodes[i - 2]
            halves = (self.says(no), self.says(yes))
            self.functions[i] = tuple(halves[row[v]][place] for place, row in enumerate(self.rows))
        return self.functions[i]

    def draft(self, function):
        """The diagram's number, and the nodes that the store lacks."""
        fresh = {}

        def walk(first, behind, asked):
            if asked == self.count:
                return function[first]
            middle = (first + behind) // 2
            no = walk(first, middle, asked + 1)
            yes = walk(middle, behind, asked + 1)
            if no == yes:
                return no
            node = (asked, no, yes)
            if node in self.numbers:
                return self.numbers[node]
            return fresh.setdefault(node, 2 + len(self.nodes) + len(fresh))

        return walk(0, len(self.rows), 0), list(fresh)

    def make(self, function):
        """The diagram's number, or -3 with nothing changed."""
        number, fresh = self.draft(function)
        if len(self.nodes) + len(fresh) > 3000:
            return -3
        for node in fresh:
            self.numbers[node] = 2 + len(self.nodes)
            self.nodes.append(node)
        return number

    def fixed(self, function, v, b):
        return tuple(function[self.place[row[:v] + (b,) + row[v + 1:]]] for row in self.rows)

    def put_in(self, function, v, inner):
        return tuple(function[self.place[row[:v] + (inner[place],) + row[v + 1:]]]
                     for place, row in enumerate(self.rows))

    def row_chance(self, row):
        product = Fraction(1)
        for v, truth in enumerate(row):
            product *= self.chances[v] if truth else 1 - self.chances[v]
        return product

    def all_chances(self):
        """The chances of all lists of truths, worked out when they are first asked for."""
        if not self.row_chances:
            self.row_chances = [self.row_chance(row) for row in self.rows]
        return self.row_chances

    def chance(self, function):
        return sum((one for one, truth in zip(self.all_chances(), function) if truth), Fraction(0))

    def yes_rows(self, function):
        return [row for row, truth in zip(self.rows, function) if truth]

    def makes(self, call):
        """The function that a call makes a diagram of, or its refusal."""
        number, args = call[0], call[1:]
        diagrams = {2: args[1:], 3: args[:1], 4: args, 8: args[:1]}.get(number, args[:1])
        if not all(self.has(i) for i in diagrams):
            return -2
        if number == 2 and not 0 <= args[0] <= 3:
            return -5
        if number in (5, 6, 7, 8) and not 0 <= args[1] < self.count:
            return -5
        if number == 5 and args[2] not in (0, 1):
            return -5
        if number == 8 and not self.has(args[2]):
            return -2
        return self.function_of(number, args)

    def function_of(self, number, args):
        says = self.says
        if number == 2:
            rule = (lambda a, b: a and b, lambda a, b: a or b, lambda a, b: a != b, lambda a, b: not a or b)[args[0]]
            return tuple(int(rule(a, b)) for a, b in zip(says(args[1]), says(args[2])))
        if number == 3:
            return tuple(1 - a for a in says(args[0]))
        if number == 4:
            return tuple(b if a else c for a, b, c in zip(*[says(i) for i in args]))
        if number == 5:
            return self.fixed(says(args[0]), args[1], args[2])
        if number == 8:
            return self.put_in(says(args[0]), args[1], says(args[2]))
        pair = zip(self.fixed(says(args[0]), args[1], 0), self.fixed(says(args[0]), args[1], 1))
        return tuple((a or b) if number == 6 else (a and b) for a, b in pair)

    def answer(self, call):
        """What is answered to a call other than vars and add."""
        number, args = call[0], call[1:]
        if number < 9:
            function = self.makes(call)
            return [function if isinstance(function, int) else self.make(function)]
        if number == 19:
            return [self.count, len(self.nodes)]
        if not all(self.has(i) for i in args[:2 if number == 10 else 1]):
            return [-2]
        asks = {9: self.chance_answer, 10: self.given_answer, 11: self.ways_answer, 12: self.node_answer,
                13: self.nodes_answer, 14: self.hangs_answer, 15: self.says_answer, 16: self.list_answer,
                17: self.best_answer, 18: self.size_by_answer}
        return asks[number](*args) if number not in (15, 18) else asks[number](args[0], args[2:])

    def chance_answer(self, i):
        one = self.chance(self.says(i))
        return [1, one.numerator, one.denominator]

    def given_answer(self, i, j):
        below = self.chance(self.says(j))
        if below == 0:
            return [-6]
        one = self.chance([a and b for a, b in zip(self.says(i), self.says(j))]) / below
        return [1, one.numerator, one.denominator]

    def ways_answer(self, i):
        return [len(self.yes_rows(self.says(i)))]

    def node_answer(self, i):
        return [-6] if i < 2 else list(self.nodes[i - 2])

    def nodes_answer(self, i):
        line = [i]
        for one in line:
            if one > 1:
                for part in self.nodes[one - 2][1:]:
                    if part not in line:
                        line.append(part)
        kept = [one for one in line if one > 1]
        return [len(kept)] + kept

    def hangs_answer(self, i):
        """By the variables that matter, whatever the nodes ask."""
        function = self.says(i)
        kept = [v for v in range(self.count) if self.fixed(function, v, 0) != self.fixed(function, v, 1)]
        return [len(kept)] + kept

    def says_answer(self, i, truths):
        if len(truths) != self.count or any(truth not in (0, 1) for truth in truths):
            return [-5]
        return [self.says(i)[self.place[tuple(truths)]]]

    def list_answer(self, i, n):
        if not 0 <= n <= 200:
            return [-5]
        rows = self.yes_rows(self.says(i))[:n]
        return [len(rows)] + [truth for row in rows for truth in row]

    def best_answer(self, i):
        pairs = [(one, row) for one, row, truth in zip(self.all_chances(), self.rows, self.says(i)) if truth]
        if not pairs:
            return [-6]
        most = max(pairs)[0]
        rows = [row for one, row in pairs if one == most]
        return [len(rows), most.numerator, most.denominator] + list(min(rows))

    def size_by_answer(self, i, order):
        if len(order) != self.count or set(order) != set(range(self.count)):
            return [-5]
        asked = Model([self.chances[v] for v in order])
        function = self.says(i)
        asked.make(tuple(function[self.place[tuple(row[order.index(v)] for v in range(self.count))]]
                         for row in asked.rows))
        return [len(asked.nodes)]


# For each operator of formulas how many parts it has, and what it says of their truths.
RULES = {"not": (1, lambda a: 1 - a), "and": (2, lambda a, b: a & b), "or": (2, lambda a, b: a | b),
         "eq": (2, lambda a, b: int(a == b)), "if": (3, lambda c, a, b: a if c else b)}


def tree_text(tree, blanks=""):
    """The formula of a tree: a word, or a tuple of an operator and its parts."""
    if isinstance(tree, str):
        return tree
    comma = "," + blanks
    return tree[0] + blanks + "(" + comma.join(tree_text(part, blanks) for part in tree[1:]) + blanks + ")"


def tree_function(tree, names):
    """What a tree's formula says for every list of truths of the variables with these names."""
    rows = list(itertools.product((0, 1), repeat=len(names)))
    words = {"true": (1,) * len(rows), "false": (0,) * len(rows)}
    for v, name in enumerate(names):
        words[name] = tuple(row[v] for row in rows)

    def walk(part):
        if isinstance(part, str):
            return words[part]
        return tuple(map(RULES[part[0]][1], *[walk(one) for one in part[1:]]))

    return walk(tree)


def scrambled(draws, names, terms):
    """The tree of a formula with a large diagram: whether an even number of so many drawn conjunctions fails."""
    if terms > 1:
        half = terms // 2
        return ("eq", scrambled(draws, names, half), scrambled(draws, names, terms - half))
    tree = names[draws.below(len(names))]
    for step in range(draws.below(5)):
        tree = ("and", names[draws.below(len(names))], tree)
    return tree


def formula_of(function, names):
    """A formula that says what the function, a tuple for all lists of truths, says."""
    if len(set(function)) == 1:
        return "true" if function[0] else "false"
    half = len(function) // 2
    no = formula_of(function[:half], names[1:])
    yes = formula_of(function[half:], names[1:])
    if no == yes:
        return no
    short = {("false", "true"): names[0], ("true", "false"): "not(%s)" % names[0]}
    return short.get((no, yes), "if(%s,%s,%s)" % (names[0], yes, no))


def written(names, chances):
    """The text that tells these variables."""
    return ", ".join("%s : %s" % pair for pair in zip(names, chances))


def all_functions(count):
    """Every truth function of so many variables."""
    return list(itertools.product((0, 1), repeat=2 ** count))
