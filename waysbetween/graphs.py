"""Answers to a list of calls about one graph."""

from waysbetween.changes import cut, edge, node
from waysbetween.network import Graph
from waysbetween.questions import far, hurt, middle, near, needed, way
from waysbetween.shares import between, ranking, share

NODE = 0
EDGE = 1
CUT = 2
FAR = 3
WAY = 4
BETWEEN = 5
SHARE = 6
RANKING = 7
NEAR = 8
NEEDED = 9
HURT = 10
MIDDLE = 11

# How many numbers stand behind a call's own number, by that number.
GIVEN_TOTALS = (0, 3, 2, 2, 3, 1, 2, 1, 1, 2, 1, 0)


def answers(calls):
    """For each call, in order: how many numbers are answered, then these."""
    graph = Graph()
    told = []
    place = 0
    while place < len(calls):
        call = calls[place]
        behind = place + 1 + GIVEN_TOTALS[call]
        answer = answer_call(graph, call, calls[place + 1:behind])
        told.append(len(answer))
        told.extend(answer)
        place = behind
    return told


def answer_call(graph, call, given):
    if call == NODE:
        return node(graph)
    if call == EDGE:
        return edge(graph, given[0], given[1], given[2])
    if call == CUT:
        return cut(graph, given[0], given[1])
    if call == FAR:
        return far(graph, given[0], given[1])
    if call == WAY:
        return way(graph, given[0], given[1], given[2])
    if call == BETWEEN:
        return between(graph, given[0])
    if call == SHARE:
        return share(graph, given[0], given[1])
    if call == RANKING:
        return ranking(graph, given[0])
    if call == NEAR:
        return near(graph, given[0])
    if call == NEEDED:
        return needed(graph, given[0], given[1])
    if call == HURT:
        return hurt(graph, given[0])
    return middle(graph)
