"""far, way and between beside a reckoning that goes through all ways one by one."""

import itertools
import random
import unittest
from fractions import Fraction

from tests.calls import HIGHEST, ask_about, between, far, graph, way


def all_ways(edges, row, end):
    """All ways that begin with row and end at end, no node twice (with one twice it would be longer)."""
    if row[-1] == end:
        return [row]
    found = []
    for x, y in edges:
        if x == row[-1] and y not in row:
            found += all_ways(edges, row + [y], end)
    return found


def length(edges, row):
    return sum(edges[pair] for pair in zip(row, row[1:]))


def shortest_ways(edges, start, end):
    """The shortest ways, by their numbers; and how long they are."""
    rows = all_ways(edges, [start], end)
    least = min([length(edges, row) for row in rows], default=None)
    return least, sorted(row for row in rows if length(edges, row) == least)


def questions_and_answers(node_total, edges):
    """All that can be asked of a graph, with what the document asks for."""
    nodes = range(1, node_total + 1)
    rows = []
    lies_between = {v: Fraction(0) for v in nodes}
    for start, end in itertools.product(nodes, nodes):
        least, ways = shortest_ways(edges, start, end)
        rows.append((far(start, end), [least, len(ways)] if ways else [-3]))
        rows += [(way(start, end, k), [len(ways[k])] + ways[k]) for k in range(len(ways))]
        rows += [(way(start, end, k), [-3]) for k in (len(ways), HIGHEST)]
        for v in nodes:
            if ways and start != end and v not in (start, end):
                lies_between[v] += Fraction(len([row for row in ways if v in row]), len(ways))
    return rows + [(between(v), [lies_between[v].numerator, lies_between[v].denominator]) for v in nodes]


def drawn_graph(source, node_total, edge_total, longest):
    pairs = list(itertools.permutations(range(1, node_total + 1), 2))
    chosen = source.sample(pairs, min(edge_total, len(pairs)))
    return {pair: source.randint(1, longest) for pair in chosen}


class ComparisonTest(unittest.TestCase):
    def compare(self, node_total, edges):
        rows = questions_and_answers(node_total, edges)
        building = graph(node_total, [(x, y, edges[(x, y)]) for x, y in edges])
        found = ask_about(building, [question for question, _ in rows])
        for (question, wanted), answer in zip(rows, found):
            self.assertEqual(answer, wanted, (question, node_total, edges))

    def test_all_graphs_of_three_nodes_with_edges_up_to_two_long(self):
        pairs = list(itertools.permutations((1, 2, 3), 2))
        for lengths in itertools.product((0, 1, 2), repeat=len(pairs)):
            self.compare(3, {pair: long for pair, long in zip(pairs, lengths) if long > 0})

    def test_drawn_graphs(self):
        source = random.Random(12)
        for node_total in range(1, 8):
            for longest in (1, 2, 3, 9):
                for _ in range(25):
                    edge_total = source.randint(0, min(30, node_total * 4))
                    self.compare(node_total, drawn_graph(source, node_total, edge_total, longest))

    def test_drawn_graphs_of_twelve_nodes(self):
        source = random.Random(40)
        for longest in (1, 2, 3, 9):
            for edge_total in (11, 18, 24):
                self.compare(12, drawn_graph(source, 12, edge_total, longest))


if __name__ == "__main__":
    unittest.main()
