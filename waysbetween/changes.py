"""The calls that change the graph. Each answers its numbers as a list."""

from waysbetween.refusals import FULL, NOT_AS_TOLD, NOT_THERE, THERE_ALREADY

MOST_NODES = 12
LONGEST_EDGE = 9


def node(graph):
    if graph.node_total == MOST_NODES:
        return [FULL]
    graph.node_total += 1
    return [graph.node_total]


def edge(graph, x, y, length):
    if not may_be_edge(graph, x, y, length):
        return [NOT_AS_TOLD]
    if (x, y) in graph.edges:
        return [THERE_ALREADY]
    graph.edges[(x, y)] = length
    return [len(graph.edges)]


def may_be_edge(graph, x, y, length):
    return graph.has_node(x) and graph.has_node(y) and x != y and 1 <= length <= LONGEST_EDGE


def cut(graph, x, y):
    if (x, y) not in graph.edges:
        return [NOT_THERE]
    graph.edges.pop((x, y))
    return [len(graph.edges)]
