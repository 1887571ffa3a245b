"""A diagram that is made beside the store, so that the store stays as it was if there is no room."""

from truthstore.space import ones


class Draft:
    """The nodes that a diagram needs and the store lacks, with the numbers they will have."""

    def __init__(self, stored, count):
        self.stored = stored
        self.count = count
        self.fresh = {}
        self.known = {}

    def diagram(self, asked, part):
        """The diagram of what is left of a table once the truths of the first asked variables are given."""
        if asked == self.count:
            return part
        # The same part needs no second walk: its nodes stand in the store or the draft by then.
        key = (asked, part)
        if key not in self.known:
            half = 1 << (self.count - 1 - asked)
            no = self.diagram(asked + 1, part & ones(half))
            yes = self.diagram(asked + 1, part >> half)
            self.known[key] = no if no == yes else self.numbered((asked, no, yes))
        return self.known[key]

    def numbered(self, node):
        """The number of the node, which is put behind all others if it is new."""
        if node in self.stored:
            return self.stored[node]
        if node not in self.fresh:
            self.fresh[node] = 2 + len(self.stored) + len(self.fresh)
        return self.fresh[node]
