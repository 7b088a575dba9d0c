"""The calls that ask about the graph. Each answers its numbers as a list."""

from waysbetween.parts import fraction, together
from waysbetween.refusals import NOT_AS_TOLD, NOT_THERE
from waysbetween.shortest import Shortest


def far(graph, x, y):
    if not graph.has_node(x) or not graph.has_node(y):
        return [NOT_AS_TOLD]
    shortest = Shortest(graph)
    if shortest.total(x, y) == 0:
        return [NOT_THERE]
    return [shortest.lengths[x][y], shortest.total(x, y)]


def way(graph, x, y, k):
    if not graph.has_node(x) or not graph.has_node(y):
        return [NOT_AS_TOLD]
    shortest = Shortest(graph)
    if k >= shortest.total(x, y):
        return [NOT_THERE]
    row = numbered_way(graph, shortest, x, y, k)
    return [len(row)] + row


def numbered_way(graph, shortest, x, y, k):
    """The nodes of the shortest way number k from x to y, which must be there."""
    row = [x]
    # Of the ways that begin with row, this many come ahead of the one that is asked for.
    ahead = k
    while row[-1] != y:
        steps = shortest.steps(graph, row[-1], y)
        place = 0
        while ahead >= shortest.total(steps[place], y):
            ahead -= shortest.total(steps[place], y)
            place += 1
        row.append(steps[place])
    return row


def between(graph, v):
    if not graph.has_node(v):
        return [NOT_AS_TOLD]
    return list(lies_between(graph, Shortest(graph), v))


def lies_between(graph, shortest, v):
    """By how much v lies between, as a fraction."""
    others = [x for x in graph.nodes() if x != v]
    whole = (0, 1)
    for start in others:
        for end in others:
            if start != end:
                whole = together(whole, part(shortest, start, v, end))
    return whole


def part(shortest, start, v, end):
    """The part of v from start to end, as a fraction."""
    total = shortest.total(start, end)
    if total == 0:
        return (0, 1)
    return fraction(shortest.total_by(start, v, end), total)
