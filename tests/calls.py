"""Writes calls as the interface asks for them, and takes the answers apart."""

from waysbetween.graphs import answers

HIGHEST = 4294967295
MOST_CALLS = 40

# Two ways of 2 edges from 1 to 4, both 4 long; the edge from 1 to 4 is longer.
DIAMOND = [(1, 3, 1), (3, 4, 3), (1, 2, 2), (2, 4, 2), (1, 4, 5)]


def node():
    return [0]


def edge(x, y, length):
    return [1, x, y, length]


def cut(x, y):
    return [2, x, y]


def far(x, y):
    return [3, x, y]


def way(x, y, k):
    return [4, x, y, k]


def between(v):
    return [5, v]


def share(x, y):
    return [6, x, y]


def ranking(n):
    return [7, n]


def near(x):
    return [8, x]


def needed(x, y):
    return [9, x, y]


def hurt(v):
    return [10, v]


def middle():
    return [11]


def both_ways(pairs):
    """Edges in both directions, 1 long."""
    return [given for x, y in pairs for given in ((x, y, 1), (y, x, 1))]


def graph(node_total, edges):
    """The calls that make these nodes and these edges (x, y, length)."""
    return [node() for _ in range(node_total)] + [edge(*given) for given in edges]


def joined(calls):
    return [number for call in calls for number in call]


def apart(told):
    """A list for each call, from the one list that is given back."""
    rows = []
    place = 0
    while place < len(told):
        behind = place + 1 + told[place]
        if told[place] < 1 or behind > len(told):
            raise AssertionError(f"no count of numbers at place {place} of {told}")
        rows.append(told[place + 1:behind])
        place = behind
    return rows


def ask(calls):
    """What is answered to each call, as a list of lists."""
    if not 1 <= len(calls) <= MOST_CALLS:
        raise AssertionError(f"{len(calls)} calls are never handed in")
    told = answers(joined(calls))
    if any(type(number) is not int for number in told):
        raise AssertionError(f"not whole numbers alone: {told}")
    rows = apart(told)
    if len(rows) != len(calls):
        raise AssertionError(f"{len(rows)} answers to {len(calls)} calls")
    return rows


def ask_about(building, questions):
    """What is answered to the questions, in as many lists of calls as it takes."""
    room = MOST_CALLS - len(building)
    rows = []
    for place in range(0, len(questions), room):
        rows += ask(building + questions[place:place + room])[len(building):]
    return rows
