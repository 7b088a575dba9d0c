"""The graph that the calls are about."""


class Graph:
    """Nodes from 1 to node_total; in edges how long each one is, by the two nodes (from, to)."""

    def __init__(self):
        self.node_total = 0
        self.edges = {}

    def nodes(self):
        return list(range(1, self.node_total + 1))

    def nodes_but(self, x):
        return [y for y in self.nodes() if y != x]

    def has_node(self, x):
        return 1 <= x <= self.node_total
