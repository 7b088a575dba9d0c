"""The interface: how calls and answers stand in their lists, and that nothing is changed or kept."""

import contextlib
import inspect
import io
import unittest

from tests.calls import HIGHEST, MOST_CALLS, ask, between, cut, edge, far, graph, joined, node, way
from waysbetween.graphs import answers

# From 1 to 11 there are 27 ways, by three rows of three nodes.
LAYERS = ([(1, x, 1) for x in (2, 3, 4)] + [(x, y, 1) for x in (2, 3, 4) for y in (5, 6, 7)]
          + [(x, y, 1) for x in (5, 6, 7) for y in (8, 9, 10)] + [(x, 11, 1) for x in (8, 9, 10)] + [(11, 12, 9)])


class UnchangedList(list):
    """A list that refuses to be changed."""

    def refuse(self, *given, **named):
        raise AssertionError("what is handed in was changed")

    __setitem__ = __delitem__ = __iadd__ = __imul__ = refuse
    append = clear = extend = insert = pop = remove = reverse = sort = refuse


class InterfaceTest(unittest.TestCase):
    def test_argument(self):
        self.assertEqual(list(inspect.signature(answers).parameters), ["calls"])

    def test_each_answer_stands_behind_its_count(self):
        told = answers([0, 0, 0, 1, 1, 2, 3, 1, 2, 3, 4, 3, 1, 3, 4, 1, 3, 0, 5, 2, 2, 1, 2, 3, 1, 3, 5, 9])
        wanted = [1, 1, 1, 2, 1, 3, 1, 1, 1, 2, 2, 7, 1, 4, 3, 1, 2, 3, 2, 1, 1, 1, 1, 1, -3, 1, -1]
        self.assertEqual(told, wanted)
        self.assertIs(type(told), list)

    def test_one_call(self):
        self.assertEqual(answers([0]), [1, 1])

    def test_numbers_of_calls_as_arguments(self):
        self.assertEqual(answers([5, 5, 3, 0, 0, 2, 5, 4, 4, 0, 1, 2, 1, 1, 0, 5, 0]),
                         [1, -1, 1, -1, 1, -3, 1, -1, 1, -1, 1, 1])

    def test_list_handed_in_is_as_it_was(self):
        calls = joined(graph(4, [(1, 2, 1), (2, 4, 1), (1, 3, 1), (3, 4, 1), (1, 2, 5)])
                       + [far(1, 4), way(1, 4, 1), between(2), cut(1, 2), cut(1, 2), far(HIGHEST, 1)])
        kept = list(calls)
        told = answers(calls)
        self.assertEqual(calls, kept)
        self.assertEqual(answers(UnchangedList(calls)), told)

    def test_list_given_back_is_not_the_one_handed_in(self):
        calls = [0, 0]
        told = answers(calls)
        told.append(7)
        self.assertEqual(calls, [0, 0])
        self.assertEqual(answers(calls), [1, 1, 1, 2])

    def test_one_time_does_not_know_of_another(self):
        first = joined(graph(12, [(1, 2, 3), (2, 3, 3)]) + [node(), far(1, 3), between(2)])
        second = joined([far(1, 2), cut(1, 2), node(), node(), far(1, 2), edge(1, 2, 8), far(1, 2)])
        told_first = answers(first)
        told_second = answers(second)
        self.assertEqual(told_second, [1, -1, 1, -3, 1, 1, 1, 2, 1, -3, 1, 1, 2, 8, 1])
        self.assertEqual(answers(first), told_first)
        self.assertEqual(answers(second), told_second)

    def test_forty_calls_over_twelve_nodes(self):
        calls = graph(12, LAYERS) + [far(1, 12), way(1, 12, 26), between(6)]
        self.assertEqual(len(calls), MOST_CALLS)
        wanted = [[number] for number in range(1, 13)] + [[number] for number in range(1, 26)]
        # From each of 1 to 4 to each of 8 to 12 a third of the ways go by 6: 20 pairs.
        wanted += [[13, 27], [6, 1, 4, 7, 10, 11, 12], [20, 3]]
        self.assertEqual(ask(calls), wanted)

    def test_forty_calls_of_four_numbers(self):
        self.assertEqual(answers([4, HIGHEST, HIGHEST, HIGHEST] * MOST_CALLS), [1, -1] * MOST_CALLS)

    def test_prints_nothing(self):
        printed = io.StringIO()
        with contextlib.redirect_stdout(printed), contextlib.redirect_stderr(printed):
            answers(joined(graph(3, [(1, 2, 1), (2, 3, 1)]) + [far(1, 3), way(1, 3, 0), between(2), cut(3, 1)]))
        self.assertEqual(printed.getvalue(), "")


if __name__ == "__main__":
    unittest.main()
