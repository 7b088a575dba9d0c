"""Promise 1: node, edge and cut."""

import unittest

from tests.calls import HIGHEST, ask, ask_about, cut, edge, far, graph, node


class NodeTest(unittest.TestCase):
    def test_numbers_rise_from_one_to_twelve(self):
        self.assertEqual(ask([node()] * 12), [[number] for number in range(1, 13)])

    def test_thirteenth_is_refused_each_time(self):
        self.assertEqual(ask([node()] * 15)[12:], [[-5], [-5], [-5]])

    def test_refused_node_leaves_the_graph_as_it_was(self):
        calls = graph(12, [(11, 12, 4)]) + [node(), far(11, 12), far(12, 13), edge(12, 13, 1), edge(12, 11, 1)]
        self.assertEqual(ask(calls)[13:], [[-5], [4, 1], [-1], [-1], [2]])

    def test_nodes_and_edges_may_come_in_turn(self):
        calls = [node(), node(), edge(1, 2, 3), node(), edge(2, 3, 4), far(1, 3)]
        self.assertEqual(ask(calls), [[1], [2], [1], [3], [2], [7, 1]])


class EdgeTest(unittest.TestCase):
    def test_answers_how_many_edges_there_are(self):
        calls = graph(3, [(1, 2, 5), (2, 3, 5), (3, 1, 5), (1, 3, 5)])
        self.assertEqual(ask(calls)[3:], [[1], [2], [3], [4]])

    def test_both_directions_stand_beside_each_other(self):
        calls = graph(2, [(1, 2, 3), (2, 1, 8)]) + [far(1, 2), far(2, 1)]
        self.assertEqual(ask(calls)[2:], [[1], [2], [3, 1], [8, 1]])

    def test_shortest_and_longest_edge(self):
        calls = graph(3, [(1, 2, 1), (2, 3, 9)]) + [far(1, 2), far(2, 3)]
        self.assertEqual(ask(calls)[3:], [[1], [2], [1, 1], [9, 1]])

    def test_no_such_node(self):
        for other in (0, 3, 12, 13, HIGHEST):
            with self.subTest(other=other):
                self.assertEqual(ask(graph(2, [(other, 1, 5), (1, other, 5), (other, other, 5)]))[2:], [[-1]] * 3)

    def test_no_node_at_all(self):
        self.assertEqual(ask([edge(1, 2, 1), edge(0, 0, 0)]), [[-1], [-1]])

    def test_from_a_node_to_itself(self):
        self.assertEqual(ask(graph(2, [(1, 1, 5), (2, 2, 5)]))[2:], [[-1], [-1]])

    def test_wrong_length(self):
        for length in (0, 10, 11, HIGHEST):
            with self.subTest(length=length):
                self.assertEqual(ask(graph(2, [(1, 2, length)]))[2:], [[-1]])

    def test_one_that_is_there_already(self):
        calls = graph(2, [(1, 2, 5), (1, 2, 5), (1, 2, 1), (2, 1, 5)]) + [far(1, 2)]
        self.assertEqual(ask(calls)[2:], [[1], [-4], [-4], [2], [5, 1]])

    def test_wrong_length_is_told_ahead_of_being_there(self):
        self.assertEqual(ask(graph(2, [(1, 2, 5), (1, 2, 0), (1, 2, 10), (1, 2, 9)]))[2:], [[1], [-1], [-1], [-4]])

    def test_refused_edge_leaves_the_graph_as_it_was(self):
        calls = graph(2, [(1, 2, 10), (1, 3, 1), (1, 1, 1)]) + [far(1, 2), cut(1, 2), node(), far(1, 3), edge(1, 2, 6)]
        self.assertEqual(ask(calls)[5:], [[-3], [-3], [3], [-3], [1]])


class CutTest(unittest.TestCase):
    def test_answers_how_many_edges_are_left(self):
        calls = graph(3, [(1, 2, 5), (2, 3, 5), (2, 1, 5)]) + [cut(1, 2), cut(2, 1), cut(2, 3)]
        self.assertEqual(ask(calls)[6:], [[2], [1], [0]])

    def test_only_that_edge_goes(self):
        calls = graph(3, [(1, 2, 5), (2, 1, 4), (2, 3, 3)]) + [cut(1, 2), far(1, 2), far(2, 1), far(2, 3)]
        self.assertEqual(ask(calls)[6:], [[2], [-3], [4, 1], [3, 1]])

    def test_no_such_edge(self):
        questions = [cut(2, 1), cut(1, 3), cut(1, 1)]
        self.assertEqual(ask_about(graph(3, [(1, 2, 5)]), questions), [[-3]] * 3)

    def test_no_such_node_is_no_such_edge(self):
        questions = [cut(given, other) for other in (0, 4, HIGHEST) for given in (1, other)]
        questions += [cut(other, 2) for other in (0, 4, HIGHEST)]
        self.assertEqual(ask_about(graph(3, [(1, 2, 5)]), questions), [[-3]] * 9)

    def test_without_nodes(self):
        self.assertEqual(ask([cut(1, 2), cut(0, 0)]), [[-3], [-3]])

    def test_second_time(self):
        self.assertEqual(ask(graph(2, [(1, 2, 5), (2, 1, 5)]) + [cut(1, 2), cut(1, 2)])[4:], [[1], [-3]])

    def test_put_in_anew_with_another_length(self):
        calls = graph(2, [(1, 2, 5)]) + [cut(1, 2), edge(1, 2, 7), far(1, 2), edge(1, 2, 5), cut(1, 2), far(1, 2)]
        self.assertEqual(ask(calls)[2:], [[1], [0], [1], [7, 1], [-4], [0], [-3]])

    def test_refused_cut_leaves_the_graph_as_it_was(self):
        calls = graph(3, [(1, 2, 5)]) + [cut(2, 1), far(1, 2), edge(2, 3, 1)]
        self.assertEqual(ask(calls)[4:], [[-3], [5, 1], [2]])


if __name__ == "__main__":
    unittest.main()
