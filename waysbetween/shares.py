"""The calls that ask for parts of the shortest ways. Each answers its numbers as a list."""

from waysbetween.parts import common_below, fraction, together
from waysbetween.refusals import NOT_AS_TOLD, NOT_THERE
from waysbetween.shortest import Shortest


def between(graph, v):
    if not graph.has_node(v):
        return [NOT_AS_TOLD]
    return list(lies_between(graph, Shortest(graph), v))


def lies_between(graph, shortest, v):
    """By how much v lies between, as a fraction."""
    others = graph.nodes_but(v)
    whole = (0, 1)
    for start in others:
        for end in others:
            if start != end:
                whole = together(whole, part(shortest.total_by(start, v, end), shortest.total(start, end)))
    return whole


def part(some, total):
    """What part of all shortest ways some of them are, as a fraction."""
    if total == 0:
        return (0, 1)
    return fraction(some, total)


def share(graph, x, y):
    if (x, y) not in graph.edges:
        return [NOT_THERE]
    shortest = Shortest(graph)
    length = graph.edges[(x, y)]
    whole = (0, 1)
    for start in graph.nodes():
        for end in graph.nodes():
            some = shortest.total_over(start, x, y, length, end)
            whole = together(whole, part(some, shortest.total(start, end)))
    return list(whole)


def ranking(graph, n):
    shortest = Shortest(graph)
    amounts = {}
    for v in graph.nodes():
        amounts[v] = lies_between(graph, shortest, v)
    first = greatest_first(amounts)[:n]
    told = [len(first)]
    for v in first:
        told.append(v)
        told.extend(amounts[v])
    return told


def greatest_first(amounts):
    """The nodes by their fractions in amounts, of as great ones the lower node first."""
    # Fractions over the same number below the line are as great as the numbers above it.
    below = common_below([amounts[v] for v in amounts])
    return sorted(amounts, key=lambda v: (-amounts[v][0] * (below // amounts[v][1]), v))
