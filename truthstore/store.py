"""The store of nodes that all diagrams of the same variables share."""

from truthstore.drafts import Draft
from truthstore.ratios import lowest
from truthstore.refusals import NoDiagram, StoreFull, WrongArgument
from truthstore.space import Space

MOST_NODES = 3000


class Store:
    """Nodes, each a tuple of its variable and its diagrams for no and yes, with their numbers.

    For each diagram, by its number, its table and its weight are kept. A weight is the chance times the product of
    all variables' denominators: a whole number, so that only an answer has to be brought to lowest terms.
    """

    def __init__(self, chances):
        self.chances = chances
        self.space = Space(len(chances))
        self.whole = 1
        for chance in chances:
            self.whole = self.whole * chance[1]
        self.numbers = {}
        self.tables = [0, self.space.full]
        self.weights = [0, self.whole]

    def check_diagram(self, diagram):
        """Refuse a number that no diagram has."""
        if diagram < 0 or diagram >= len(self.tables):
            raise NoDiagram()

    def check_variable(self, variable):
        """Refuse a number that no variable has."""
        if variable < 0 or variable >= len(self.chances):
            raise WrongArgument()

    def make(self, table):
        """The number of the diagram of the table's function, whose nodes are put to the store if they are new."""
        draft = Draft(self.numbers, self.space.count)
        diagram = draft.diagram(0, table)
        if len(self.numbers) + len(draft.fresh) > MOST_NODES:
            raise StoreFull()
        for node in draft.fresh:
            self.put_node(node)
        return diagram

    def put_node(self, node):
        """Put a new node to the end."""
        asked = self.space.variable_tables[node[0]]
        self.numbers[node] = len(self.tables)
        self.tables.append(self.space.chosen(asked, self.tables[node[2]], self.tables[node[1]]))
        self.weights.append(self.mixed_weight(node))

    def mixed_weight(self, node):
        """The node's weight, from those of its two diagrams."""
        chance = self.chances[node[0]]
        mixed = (chance[1] - chance[0]) * self.weights[node[1]] + chance[0] * self.weights[node[2]]
        # Both diagrams ask later variables only, so this one's denominator is still a factor of their weights.
        return mixed // chance[1]

    def chance_of(self, diagram):
        """The chance of the diagram."""
        return lowest(self.weights[diagram], self.whole)
