"""How long the shortest ways are, and how many there are."""


class Shortest:
    """The shortest ways of a graph as it is now.

    By first node, then by last node, and only where there is a way:
    lengths has how long the shortest ways are, totals how many there are.
    """

    def __init__(self, graph):
        self.lengths = {}
        self.totals = {}
        for start in graph.nodes():
            lengths = lengths_from(graph, start)
            self.lengths[start] = lengths
            self.totals[start] = totals_from(graph, start, lengths)

    def total(self, start, end):
        return self.totals[start].get(end, 0)

    def total_by(self, start, v, end):
        """How many of the shortest ways from start to end go by v."""
        return self.total_over(start, v, v, 0, end)

    def total_over(self, start, x, y, length, end):
        """How many of the shortest ways from start to end go the edge from x to y, which is this long.

        With x as y and 0 as the length it's how many go by x.
        """
        ways = self.total(start, x) * self.total(y, end)
        if ways == 0:
            return 0
        if self.lengths[start][x] + length + self.lengths[y][end] != self.lengths[start][end]:
            return 0
        return ways

    def all_by(self, start, v, end):
        """Whether there are ways from start to end and all shortest ones go by v."""
        total = self.total(start, end)
        return total > 0 and self.total_by(start, v, end) == total

    def steps(self, graph, x, end):
        """The nodes that come next after x on shortest ways from x to end, rising."""
        return [y for y in graph.nodes() if self.is_step(graph, x, y, end)]

    def is_step(self, graph, x, y, end):
        if (x, y) not in graph.edges or end not in self.lengths[y]:
            return False
        return graph.edges[(x, y)] + self.lengths[y][end] == self.lengths[x][end]


def lengths_from(graph, start):
    """How long the shortest ways from start are, by their last node."""
    lengths = {start: 0}
    # No shortest way has a node twice, as all edges have some length. So each
    # has fewer edges than there are nodes, and one round for each edge will do.
    for edges_so_far in range(1, graph.node_total):
        for pair in graph.edges:
            go_edge(lengths, pair[0], pair[1], graph.edges[pair])
    return lengths


def go_edge(lengths, x, y, length):
    """Keeps in lengths the way to y that goes by x last, if it's shorter than what is known."""
    if x not in lengths:
        return
    if y not in lengths or lengths[x] + length < lengths[y]:
        lengths[y] = lengths[x] + length


def totals_from(graph, start, lengths):
    """How many shortest ways from start there are, by their last node."""
    totals = {start: 1}
    # The node before the last is nearer to start than the last, so it's counted by then.
    for end in sorted(lengths, key=lambda x: lengths[x]):
        if end != start:
            totals[end] = sum([totals[x] for x in nodes_before(graph, lengths, end)])
    return totals


def nodes_before(graph, lengths, end):
    """The nodes that come just ahead of end on shortest ways from where lengths are reckoned."""
    return [x for x in lengths if (x, end) in graph.edges and lengths[x] + graph.edges[(x, end)] == lengths[end]]
