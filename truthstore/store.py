"""The store of nodes that all diagrams of the same variables share."""

from truthstore.drafts import Draft
from truthstore.ratios import lowest
from truthstore.refusals import NoDiagram, StoreFull, WrongArgument
from truthstore.space import Space

MOST_NODES = 3000


class Store:
    """Nodes, each a tuple of its variable and its diagrams for no and yes, with their numbers.

    For each diagram, by its number, its table, its weight and its number of ways are kept. A weight is the chance
    times the product of all variables' denominators: a whole number, so that only an answer has to be brought to
    lowest terms.
    """

    def __init__(self, chances):
        self.chances = chances
        self.space = Space(len(chances))
        self.whole = 1
        for chance in chances:
            self.whole = self.whole * chance[1]
        self.nodes = []
        self.numbers = {}
        self.tables = [0, self.space.full]
        self.weights = [0, self.whole]
        self.ways = [0, 1 << self.space.count]

    def check_diagram(self, diagram):
        """Refuse a number that no diagram has."""
        if diagram < 0 or diagram >= len(self.tables):
            raise NoDiagram()

    def check_variable(self, variable):
        """Refuse a number that no variable has."""
        if variable < 0 or variable >= len(self.chances):
            raise WrongArgument()

    def make(self, table):
        """The number of the diagram of the table's function, whose nodes are put to the store if they are new."""
        draft = Draft(self.numbers, self.space.count)
        diagram = draft.diagram(0, table)
        if len(self.numbers) + len(draft.fresh) > MOST_NODES:
            raise StoreFull()
        for node in draft.fresh:
            self.put_node(node)
        return diagram

    def put_node(self, node):
        """Put a new node to the end."""
        asked = self.space.variable_tables[node[0]]
        self.numbers[node] = len(self.tables)
        self.nodes.append(node)
        self.tables.append(self.space.chosen(asked, self.tables[node[2]], self.tables[node[1]]))
        self.weights.append(self.mixed_weight(node, self.weights))
        # Neither diagram asks this variable, so half of the ways of each have it as the node needs it.
        self.ways.append((self.ways[node[1]] + self.ways[node[2]]) // 2)

    def mixed_weight(self, node, weights):
        """The node's weight, from those of its two diagrams."""
        chance = self.chances[node[0]]
        mixed = (chance[1] - chance[0]) * weights[node[1]] + chance[0] * weights[node[2]]
        # Both diagrams ask later variables only, so this one's denominator is still a factor of their weights.
        return mixed // chance[1]

    def table_weight(self, table):
        """The weight of the table's function, whose diagram is not put to the store."""
        draft = Draft(self.numbers, self.space.count)
        diagram = draft.diagram(0, table)
        weights = list(self.weights)
        for node in draft.fresh:
            weights.append(self.mixed_weight(node, weights))
        return weights[diagram]

    def list_weights(self):
        """For each list of truths, by its place, its chance times the product of all denominators."""
        weights = [1]
        for chance in self.chances:
            longer = []
            for weight in weights:
                longer.append(weight * (chance[1] - chance[0]))
                longer.append(weight * chance[0])
            weights = longer
        return weights

    def node_of(self, diagram):
        """The node of a diagram other than 0 and 1."""
        return self.nodes[diagram - 2]

    def parts_of(self, diagram):
        """The diagram's own two diagrams, for no and for yes; none of 0 and 1."""
        if diagram in (0, 1):
            return []
        node = self.node_of(diagram)
        return [node[1], node[2]]

    def nodes_of(self, diagram):
        """The numbers of the diagram's nodes, in the order in which they are met."""
        listed = [diagram]
        met = {diagram: True}
        place = 0
        while place < len(listed):
            for part in self.parts_of(listed[place]):
                if part not in met:
                    met[part] = True
                    listed.append(part)
            place += 1
        return [number for number in listed if number > 1]

    def size_by(self, diagram, order):
        """How many nodes the diagram's function has in a store of its own, with the variables in this order."""
        draft = Draft({}, self.space.count)
        draft.diagram(0, self.space.reordered(self.tables[diagram], order))
        return len(draft.fresh)
