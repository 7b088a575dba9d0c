"""The calls that ask how long and which the shortest ways are. Each answers its numbers as a list."""

from waysbetween.refusals import NOT_AS_TOLD, NOT_THERE
from waysbetween.shortest import Shortest, lengths_from


def far(graph, x, y):
    if not graph.has_node(x) or not graph.has_node(y):
        return [NOT_AS_TOLD]
    shortest = Shortest(graph)
    if shortest.total(x, y) == 0:
        return [NOT_THERE]
    return [shortest.lengths[x][y], shortest.total(x, y)]


def way(graph, x, y, k):
    if not graph.has_node(x) or not graph.has_node(y):
        return [NOT_AS_TOLD]
    shortest = Shortest(graph)
    if k >= shortest.total(x, y):
        return [NOT_THERE]
    row = numbered_way(graph, shortest, x, y, k)
    return [len(row)] + row


def numbered_way(graph, shortest, x, y, k):
    """The nodes of the shortest way number k from x to y, which must be there."""
    row = [x]
    # Of the ways that begin with row, this many come ahead of the one that is asked for.
    ahead = k
    while row[-1] != y:
        steps = shortest.steps(graph, row[-1], y)
        place = 0
        while ahead >= shortest.total(steps[place], y):
            ahead -= shortest.total(steps[place], y)
            place += 1
        row.append(steps[place])
    return row


def near(graph, x):
    if not graph.has_node(x):
        return [NOT_AS_TOLD]
    lengths = lengths_to_others(graph, x)
    return [len(lengths), sum(lengths), max(lengths, default=0)]


def lengths_to_others(graph, x):
    """How long the shortest ways from x are, one to each other node that there's a way to."""
    lengths = lengths_from(graph, x)
    return [lengths[y] for y in lengths if y != x]


def middle(graph):
    longest = {}
    for x in graph.nodes():
        lengths = lengths_to_others(graph, x)
        if len(lengths) == graph.node_total - 1:
            longest[x] = max(lengths, default=0)
    least = min([longest[x] for x in longest], default=0)
    found = [x for x in longest if longest[x] == least]
    return [len(found)] + found


def needed(graph, x, y):
    if not graph.has_node(x) or not graph.has_node(y):
        return [NOT_AS_TOLD]
    shortest = Shortest(graph)
    if x == y or shortest.total(x, y) == 0:
        return [NOT_THERE]
    found = [v for v in graph.nodes_but(x) if v != y and shortest.all_by(x, v, y)]
    return [len(found)] + found


def hurt(graph, v):
    if not graph.has_node(v):
        return [NOT_AS_TOLD]
    pairs = hurt_pairs(graph, v)
    told = [len(pairs)]
    for pair in pairs:
        told.extend(pair)
    return told


def hurt_pairs(graph, v):
    """The pairs (from, to) whose shortest ways would be longer or none without all edges of v."""
    shortest = Shortest(graph)
    others = graph.nodes_but(v)
    pairs = []
    # Without its edges just the ways by v are gone. So a pair keeps a way
    # as short as now unless all of its shortest ways go by v.
    for start in others:
        pairs.extend([(start, end) for end in others if shortest.all_by(start, v, end)])
    return pairs
