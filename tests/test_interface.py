"""The interface: how calls and answers stand in their lists, and that nothing is changed or kept."""

import contextlib
import inspect
import io
import unittest

from tests.calls import (HIGHEST, MOST_CALLS, ask, between, cut, edge, far, graph, hurt, joined, middle, near, needed,
                         node, ranking, share, way)
from waysbetween.graphs import answers

# From 1 to 11 there are 27 ways, by three rows of three nodes.
LAYERS = ([(1, x, 1) for x in (2, 3, 4)] + [(x, y, 1) for x in (2, 3, 4) for y in (5, 6, 7)]
          + [(x, y, 1) for x in (5, 6, 7) for y in (8, 9, 10)] + [(x, 11, 1) for x in (8, 9, 10)] + [(11, 12, 9)])

# All twelve calls, answered, and all refusals but the one of a thirteenth node.
ALL_CALLS = (graph(4, [(1, 2, 1), (2, 4, 1), (1, 3, 1), (3, 4, 1), (1, 2, 5), (1, 4, 0)])
             + [far(1, 4), far(4, 1), way(1, 4, 1), way(1, 4, 2), between(2), between(5), share(1, 2), share(2, 1),
                ranking(2), ranking(HIGHEST), near(1), near(0), needed(1, 4), needed(2, 2), needed(9, 9), hurt(2),
                hurt(HIGHEST), middle(), cut(1, 2), cut(1, 2), needed(1, 4), hurt(3), far(HIGHEST, 1)])
ALL_ANSWERS = [[1], [2], [3], [4], [1], [2], [3], [4], [-4], [-1],
               [2, 2], [-3], [3, 1, 3, 4], [-3], [1, 2], [-1], [3, 2], [-3],
               [2, 2, 1, 2, 3, 1, 2], [4, 2, 1, 2, 3, 1, 2, 1, 0, 1, 4, 0, 1], [3, 4, 2], [-1], [0], [-3], [-1], [0],
               [-1], [1, 1], [3], [-3], [1, 3], [1, 1, 4], [-1]]


class UnchangedList(list):
    """A list that refuses to be changed."""

    def refuse(self, *given, **named):
        raise AssertionError("what is handed in was changed")

    __setitem__ = __delitem__ = __iadd__ = __imul__ = refuse
    append = clear = extend = insert = pop = remove = reverse = sort = refuse


class InterfaceTest(unittest.TestCase):
    def test_argument(self):
        self.assertEqual(list(inspect.signature(answers).parameters), ["calls"])

    def test_each_answer_stands_behind_its_count(self):
        told = answers([0, 0, 0, 1, 1, 2, 3, 1, 2, 3, 4, 3, 1, 3, 4, 1, 3, 0, 5, 2, 2, 1, 2, 3, 1, 3, 5, 9])
        wanted = [1, 1, 1, 2, 1, 3, 1, 1, 1, 2, 2, 7, 1, 4, 3, 1, 2, 3, 2, 1, 1, 1, 1, 1, -3, 1, -1]
        self.assertEqual(told, wanted)
        self.assertIs(type(told), list)

    def test_each_of_the_later_answers_stands_behind_its_count(self):
        told = answers([0, 0, 0, 1, 1, 2, 3, 1, 2, 3, 4, 6, 1, 2, 7, 2, 8, 1, 9, 1, 3, 10, 2, 11, 6, 3, 1, 9, 1, 1])
        wanted = [1, 1, 1, 2, 1, 3, 1, 1, 1, 2, 2, 2, 1, 7, 2, 2, 1, 1, 1, 0, 1, 3, 2, 10, 7, 2, 1, 2, 3, 1, 1, 3,
                  2, 1, 1, 1, -3, 1, -3]
        self.assertEqual(told, wanted)

    def test_all_calls_in_one_list(self):
        self.assertEqual(ask(ALL_CALLS), ALL_ANSWERS)

    def test_one_call(self):
        self.assertEqual(answers([0]), [1, 1])
        self.assertEqual(answers([11]), [1, 0])

    def test_numbers_of_calls_as_arguments(self):
        self.assertEqual(answers([5, 5, 3, 0, 0, 2, 5, 4, 4, 0, 1, 2, 1, 1, 0, 5, 0]),
                         [1, -1, 1, -1, 1, -3, 1, -1, 1, -1, 1, 1])
        self.assertEqual(answers([10, 11, 9, 7, 8, 6, 6, 11, 7, 7, 8, 10, 11, 0, 7, 11]),
                         [1, -1, 1, -1, 1, -3, 1, 0, 1, -1, 1, 0, 1, 1, 4, 1, 1, 0, 1])

    def test_list_handed_in_is_as_it_was(self):
        calls = joined(ALL_CALLS)
        kept = list(calls)
        told = answers(calls)
        self.assertEqual(calls, kept)
        self.assertEqual(answers(UnchangedList(calls)), told)

    def test_list_given_back_is_not_the_one_handed_in(self):
        calls = [0, 0]
        told = answers(calls)
        told.append(7)
        self.assertEqual(calls, [0, 0])
        self.assertEqual(answers(calls), [1, 1, 1, 2])

    def test_one_time_does_not_know_of_another(self):
        first = joined(graph(12, [(1, 2, 3), (2, 3, 3)]) + [node(), far(1, 3), between(2)])
        second = joined([far(1, 2), cut(1, 2), node(), node(), far(1, 2), edge(1, 2, 8), far(1, 2)])
        told_first = answers(first)
        told_second = answers(second)
        self.assertEqual(told_second, [1, -1, 1, -3, 1, 1, 1, 2, 1, -3, 1, 1, 2, 8, 1])
        self.assertEqual(answers(first), told_first)
        self.assertEqual(answers(second), told_second)

    def test_no_question_is_answered_out_of_another_list(self):
        questions = [middle(), ranking(3), share(1, 2), near(1), needed(1, 3), hurt(2)]
        one = graph(3, [(1, 2, 1), (2, 3, 1)]) + questions
        other = graph(3, [(1, 2, 4), (1, 3, 2)]) + questions
        told_one = [[1, 1], [3, 2, 1, 1, 1, 0, 1, 3, 0, 1], [2, 1], [2, 3, 2], [1, 2], [1, 1, 3]]
        told_other = [[1, 1], [3, 1, 0, 1, 2, 0, 1, 3, 0, 1], [1, 1], [2, 6, 4], [0], [0]]
        self.assertEqual(ask(one)[5:], told_one)
        self.assertEqual(ask(questions), [[0], [0], [-3], [-1], [-1], [-1]])
        self.assertEqual(ask(other)[5:], told_other)
        self.assertEqual(ask(one)[5:], told_one)

    def test_forty_calls_over_twelve_nodes(self):
        calls = graph(12, LAYERS) + [far(1, 12), way(1, 12, 26), between(6)]
        self.assertEqual(len(calls), MOST_CALLS)
        wanted = [[number] for number in range(1, 13)] + [[number] for number in range(1, 26)]
        # From each of 1 to 4 to each of 8 to 12 a third of the ways go by 6: 20 pairs.
        wanted += [[13, 27], [6, 1, 4, 7, 10, 11, 12], [20, 3]]
        self.assertEqual(ask(calls), wanted)

    def test_all_questions_over_twelve_nodes(self):
        calls = graph(12, LAYERS[:22]) + [share(2, 5), ranking(2), near(1), needed(1, 11), hurt(1), middle()]
        self.assertEqual(len(calls), MOST_CALLS)
        # Only 8 leads to 11, and nothing to 12. From 2 to 5: all of that pair, a third of 2 to each of 8 to 11
        # and of 1 to 5, a ninth of 1 to each of 8 to 11. By 5: a third of each of 1 to 4 to each of 8 to 11.
        self.assertEqual(ask(calls)[34:], [[28, 9], [2, 8, 7, 1, 5, 16, 3], [10, 22, 4], [1, 8], [0], [0]])

    def test_forty_calls_of_four_numbers(self):
        self.assertEqual(answers([4, HIGHEST, HIGHEST, HIGHEST] * MOST_CALLS), [1, -1] * MOST_CALLS)

    def test_prints_nothing(self):
        printed = io.StringIO()
        with contextlib.redirect_stdout(printed), contextlib.redirect_stderr(printed):
            answers(joined(ALL_CALLS))
        self.assertEqual(printed.getvalue(), "")


if __name__ == "__main__":
    unittest.main()
