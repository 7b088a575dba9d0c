"""All calls beside a reckoning that goes through all ways one by one."""

import itertools
import random
import unittest
from fractions import Fraction

from tests.calls import (HIGHEST, MOST_CALLS, ask, ask_about, between, cut, edge, far, graph, hurt, middle, near,
                         needed, node, ranking, share, way)

WRITERS = (node, edge, cut, far, way, between, share, ranking, near, needed, hurt, middle)
REFUSALS = (-1, -3, -4, -5)


def ways_from(edges, start):
    """All ways from start, by their last node; no node twice (with one twice it would be longer)."""
    found = {}
    rows = [(start,)]
    while rows:
        row = rows.pop()
        found.setdefault(row[-1], []).append(row)
        rows += [row + (y,) for x, y in edges if x == row[-1] and y not in row]
    return found


def pairs_of(row):
    return list(zip(row, row[1:]))


class Reckoning:
    """A graph, and what the document asks to be answered about it."""

    def __init__(self, node_total=0, edges=None):
        self.node_total = node_total
        self.edges = dict(edges or {})
        self.known = {}

    def nodes(self):
        return range(1, self.node_total + 1)

    def pairs(self):
        return list(itertools.permutations(self.nodes(), 2))

    def changed(self):
        self.known = {}

    def shortest_from(self, start):
        """By last node: how long the shortest ways are, and these by their numbers."""
        if start not in self.known:
            self.known[start] = {}
            for end, rows in ways_from(self.edges, start).items():
                long = {row: sum(self.edges[pair] for pair in pairs_of(row)) for row in rows}
                least = min(long.values())
                self.known[start][end] = (least, sorted(row for row in rows if long[row] == least))
        return self.known[start]

    def least(self, start, end):
        return self.shortest_from(start).get(end, (None, []))[0]

    def ways(self, start, end):
        return self.shortest_from(start).get(end, (None, []))[1]

    def are_nodes(self, *given):
        return all(x in self.nodes() for x in given)

    def added_parts(self, pairs, is_on):
        whole = Fraction(0)
        for start, end in pairs:
            rows = self.ways(start, end)
            if rows:
                whole += Fraction(len([row for row in rows if is_on(row)]), len(rows))
        return whole

    def lies_between(self, v):
        return self.added_parts([pair for pair in self.pairs() if v not in pair], lambda row: v in row)

    def answer(self, call):
        return getattr(self, WRITERS[call[0]].__name__)(*call[1:])

    def node(self):
        if self.node_total == 12:
            return [-5]
        self.node_total += 1
        self.changed()
        return [self.node_total]

    def edge(self, x, y, length):
        if not self.are_nodes(x, y) or x == y or length not in range(1, 10):
            return [-1]
        if (x, y) in self.edges:
            return [-4]
        self.edges[(x, y)] = length
        self.changed()
        return [len(self.edges)]

    def cut(self, x, y):
        if (x, y) not in self.edges:
            return [-3]
        del self.edges[(x, y)]
        self.changed()
        return [len(self.edges)]

    def far(self, x, y):
        if not self.are_nodes(x, y):
            return [-1]
        return [self.least(x, y), len(self.ways(x, y))] if self.ways(x, y) else [-3]

    def way(self, x, y, k):
        if not self.are_nodes(x, y):
            return [-1]
        rows = self.ways(x, y)
        return [len(rows[k]), *rows[k]] if k < len(rows) else [-3]

    def between(self, v):
        return list(self.lies_between(v).as_integer_ratio()) if self.are_nodes(v) else [-1]

    def share(self, x, y):
        if (x, y) not in self.edges:
            return [-3]
        return list(self.added_parts(self.pairs(), lambda row: (x, y) in pairs_of(row)).as_integer_ratio())

    def ranking(self, n):
        ranked = sorted((-self.lies_between(v), v) for v in self.nodes())[:n]
        return [len(ranked)] + [number for less, v in ranked for number in (v, *(-less).as_integer_ratio())]

    def near(self, x):
        if not self.are_nodes(x):
            return [-1]
        lengths = [self.least(x, y) for y in self.nodes() if y != x and self.ways(x, y)]
        return [len(lengths), sum(lengths), max(lengths + [0])]

    def needed(self, x, y):
        if not self.are_nodes(x, y):
            return [-1]
        if x == y or not self.ways(x, y):
            return [-3]
        found = [v for v in self.nodes() if v not in (x, y) and all(v in row for row in self.ways(x, y))]
        return [len(found), *found]

    def hurt(self, v):
        if not self.are_nodes(v):
            return [-1]
        without = Reckoning(self.node_total, {pair: self.edges[pair] for pair in self.edges if v not in pair})
        found = []
        for s, e in self.pairs():
            if v not in (s, e) and self.ways(s, e):
                if not without.ways(s, e) or without.least(s, e) > self.least(s, e):
                    found.append((s, e))
        return [len(found)] + [number for pair in sorted(found) for number in pair]

    def middle(self):
        longest = {}
        for x in self.nodes():
            if all(self.ways(x, y) for y in self.nodes()):
                longest[x] = max(self.least(x, y) for y in self.nodes())
        found = sorted(x for x in longest if longest[x] == min(longest.values()))
        return [len(found), *found]


def all_questions(reckoning):
    """All that can be asked of a graph, with some that is refused."""
    nodes = list(reckoning.nodes())
    others = nodes + [0, nodes[-1] + 1]
    questions = [middle()] + [ranking(n) for n in (*range(len(nodes) + 2), HIGHEST)]
    for x in others:
        questions += [between(x), near(x), hurt(x)]
        questions += [call(x, y) for y in others for call in (far, share, needed)]
    for x, y in itertools.product(nodes, nodes):
        total = len(reckoning.ways(x, y))
        questions += [way(x, y, k) for k in (*range(total + 1), HIGHEST)]
    return questions


def drawn_graph(source, node_total, edge_total, longest):
    pairs = list(itertools.permutations(range(1, node_total + 1), 2))
    chosen = source.sample(pairs, min(edge_total, len(pairs)))
    return {pair: source.randint(1, longest) for pair in chosen}


def drawn_node(source, reckoning):
    """Mostly a node, now and then none."""
    if source.random() < 0.04 or reckoning.node_total == 0:
        return source.choice((0, reckoning.node_total + 1, HIGHEST))
    return source.randint(1, reckoning.node_total)


def drawn_question(source, reckoning):
    writer = source.choice(WRITERS[3:])
    x, y = drawn_node(source, reckoning), drawn_node(source, reckoning)
    if writer == share and reckoning.edges and source.random() < 0.8:
        return share(*source.choice(list(reckoning.edges)))
    if writer == way:
        return way(x, y, source.choice((0, 0, 1, 2, HIGHEST)))
    if writer == ranking:
        return ranking(source.choice((0, 1, 2, 3, 6, 12, 13, HIGHEST)))
    if writer == middle:
        return middle()
    return writer(x, y) if writer in (far, share, needed) else writer(x)


def drawn_call(source, reckoning, node_total, longest, edge_part):
    """Nodes first, but not all at once; then edges and questions, a cut now and then."""
    chance = source.random()
    if reckoning.node_total < node_total and chance < 0.7 or chance < 0.02:
        return node()
    if chance < 0.06:
        pairs = list(reckoning.edges) + [(drawn_node(source, reckoning), drawn_node(source, reckoning))]
        return cut(*source.choice(pairs))
    if source.random() < edge_part:
        length = source.choice((0, 10, HIGHEST)) if source.random() < 0.04 else source.randint(1, longest)
        return edge(drawn_node(source, reckoning), drawn_node(source, reckoning), length)
    return drawn_question(source, reckoning)


def drawn_list(source):
    """Calls, and what is wanted for each."""
    node_total = source.randint(1, 12)
    longest = source.choice((1, 1, 2, 3, 9))
    edge_part = source.choice((0.3, 0.5, 0.7))
    reckoning = Reckoning()
    rows = []
    for _ in range(source.choice((MOST_CALLS, MOST_CALLS, source.randint(1, MOST_CALLS)))):
        call = drawn_call(source, reckoning, node_total, longest, edge_part)
        rows.append((call, reckoning.answer(call)))
    return rows


class ComparisonTest(unittest.TestCase):
    def compare(self, node_total, edges):
        reckoning = Reckoning(node_total, edges)
        questions = all_questions(reckoning)
        building = graph(node_total, [(x, y, edges[(x, y)]) for x, y in edges])
        found = ask_about(building, questions)
        for question, answer in zip(questions, found, strict=True):
            self.assertEqual(answer, reckoning.answer(question), (question, node_total, edges))

    def test_all_graphs_of_three_nodes_with_edges_up_to_two_long(self):
        pairs = list(itertools.permutations((1, 2, 3), 2))
        for lengths in itertools.product((0, 1, 2), repeat=len(pairs)):
            self.compare(3, {pair: long for pair, long in zip(pairs, lengths) if long > 0})

    def test_drawn_graphs(self):
        source = random.Random(12)
        for node_total in range(1, 8):
            for longest in (1, 2, 3, 9):
                for _ in range(12):
                    edge_total = source.randint(0, min(30, node_total * 4))
                    self.compare(node_total, drawn_graph(source, node_total, edge_total, longest))

    def test_drawn_graphs_of_twelve_nodes(self):
        source = random.Random(40)
        for longest in (1, 2, 3, 9):
            for edge_total in (11, 18, 24):
                self.compare(12, drawn_graph(source, 12, edge_total, longest))

    def test_drawn_lists_of_all_calls(self):
        source = random.Random(11)
        seen = set()
        for _ in range(1500):
            rows = drawn_list(source)
            found = ask([call for call, _ in rows])
            for place, ((call, wanted), answer) in enumerate(zip(rows, found, strict=True)):
                self.assertEqual(answer, wanted, [call for call, _ in rows[:place + 1]])
                seen.add((WRITERS[call[0]].__name__, min(wanted[0], 0)))
        # Each call must have been answered, and refused in each way that there is, or the lists compare too little.
        refused = {"node": [-5], "edge": [-1, -4], "cut": [-3], "far": [-1, -3], "way": [-1, -3], "between": [-1],
                   "share": [-3], "ranking": [], "near": [-1], "needed": [-1, -3], "hurt": [-1], "middle": []}
        self.assertEqual(seen, {(name, number) for name in refused for number in [0] + refused[name]})

    def test_questions_and_refusals_leave_the_graph_as_it_was(self):
        source = random.Random(5)
        last = [middle(), ranking(HIGHEST), hurt(1), near(2), needed(1, 3), far(2, 1), node()]
        for _ in range(300):
            rows = drawn_list(source)[:MOST_CALLS - len(last)]
            changes = [call for call, wanted in rows if call[0] < 3 and wanted[0] not in REFUSALS]
            with_all = ask([call for call, _ in rows] + last)
            self.assertEqual(ask(changes + last)[-len(last):], with_all[-len(last):], rows)


if __name__ == "__main__":
    unittest.main()
