"""Truth functions of so many variables, each as a table.

A table is a whole number with a bit for each list of truths: 1 where the function says yes. A list of truths is
the place of its bit, read as binary digits with the first variable's truth as the highest. So the lower half of a
table tells what the function says with the first variable false, and the upper half what it says with it true.
"""


def ones(width):
    """As many bits 1 as are asked for."""
    return (1 << width) - 1


def variable_table(count, variable):
    """The table of the function that says what the variable is, of count variables."""
    block = 1 << (count - 1 - variable)
    table = ones(block) << block
    width = 2 * block
    while width < 1 << count:
        table = table | (table << width)
        width = 2 * width
    return table


class Space:
    """The tables for one number of variables."""

    def __init__(self, count):
        self.count = count
        self.full = ones(1 << count)
        self.variable_tables = [variable_table(count, variable) for variable in range(count)]

    def other(self, table):
        """The other truth."""
        return self.full ^ table

    def same(self, first, second):
        """Whether both say the same."""
        return self.other(first ^ second)

    def chosen(self, asked, yes, no):
        """What yes says where asked says yes, else what no says."""
        return (asked & yes) | (self.other(asked) & no)

    def fixed(self, table, variable, truth):
        """What the table says with the variable false (0) or true (1), whatever it is."""
        block = 1 << (self.count - 1 - variable)
        with_true = table & self.variable_tables[variable]
        if truth == 1:
            return with_true | (with_true >> block)
        with_false = table ^ with_true
        return with_false | (with_false << block)

    def swapped(self, table, first, second):
        """What the table says with two variables in each other's place; the first is not behind the second."""
        one = self.variable_tables[first]
        two = self.variable_tables[second]
        unlike = table & (one ^ two)
        gap = (1 << (self.count - 1 - first)) - (1 << (self.count - 1 - second))
        return (table ^ unlike) | ((unlike & one) >> gap) | ((unlike & two) << gap)

    def reordered(self, table, order):
        """The table of the same function of the variables in this order."""
        standing = list(range(self.count))
        for place in range(self.count):
            found = standing.index(order[place])
            table = self.swapped(table, place, found)
            standing[found] = standing[place]
            standing[place] = order[place]
        return table

    def places(self, table, most):
        """The places of the lists of truths for which the table says yes, in order, but at most so many."""
        found = []
        while table > 0 and len(found) < most:
            lowest_bit = table & -table
            found.append(lowest_bit.bit_length() - 1)
            table = table ^ lowest_bit
        return found

    def truths_at(self, place):
        """The list of truths whose place it is."""
        return [(place >> (self.count - 1 - variable)) & 1 for variable in range(self.count)]
