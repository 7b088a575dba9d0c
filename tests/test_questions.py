"""Promise 2: far, way and between."""

import unittest

from tests.calls import HIGHEST, ask, ask_about, between, cut, edge, far, graph, node, way

# Two ways of 2 edges from 1 to 4, both 4 long; the edge from 1 to 4 is longer.
DIAMOND = [(1, 3, 1), (3, 4, 3), (1, 2, 2), (2, 4, 2), (1, 4, 5)]


def both_ways(pairs):
    return [edge for x, y in pairs for edge in ((x, y, 1), (y, x, 1))]


class FarTest(unittest.TestCase):
    def test_one_edge(self):
        self.assertEqual(ask_about(graph(2, [(1, 2, 7)]), [far(1, 2)]), [[7, 1]])

    def test_from_a_node_to_itself(self):
        building = graph(3, [(1, 2, 1), (2, 1, 1)])
        self.assertEqual(ask_about(building, [far(1, 1), far(2, 2), far(3, 3)]), [[0, 1]] * 3)

    def test_several_as_short(self):
        self.assertEqual(ask_about(graph(4, DIAMOND), [far(1, 4)]), [[4, 2]])

    def test_an_edge_as_short_as_ways_of_more_edges(self):
        building = graph(4, [(1, 2, 1), (2, 3, 1), (3, 4, 1), (1, 4, 3), (1, 3, 2), (2, 4, 2)])
        self.assertEqual(ask_about(building, [far(1, 4), far(1, 3), far(2, 4)]), [[3, 4], [2, 2], [2, 2]])

    def test_more_edges_that_are_shorter_than_one(self):
        building = graph(4, [(1, 4, 9), (1, 2, 2), (2, 3, 2), (3, 4, 2)])
        self.assertEqual(ask_about(building, [far(1, 4)]), [[6, 1]])

    def test_all_nodes_on_one_way_against_their_order(self):
        building = graph(12, [(x, x - 1, 9) for x in range(2, 13)])
        self.assertEqual(ask_about(building, [far(12, 1), far(1, 12)]), [[99, 1], [-3]])

    def test_no_way(self):
        building = graph(3, [(1, 2, 1), (3, 2, 1)])
        self.assertEqual(ask_about(building, [far(2, 1), far(1, 3), far(2, 3)]), [[-3]] * 3)

    def test_no_such_node(self):
        questions = [far(*pair) for other in (0, 4, HIGHEST) for pair in ((1, other), (other, 1), (other, other))]
        self.assertEqual(ask_about(graph(3, [(1, 2, 1)]), questions), [[-1]] * 9)

    def test_without_nodes(self):
        self.assertEqual(ask([far(1, 1), far(0, 0)]), [[-1], [-1]])

    def test_follows_each_change(self):
        calls = graph(3, [(1, 2, 2), (2, 3, 2)]) + [far(1, 3), edge(1, 3, 4), far(1, 3), cut(2, 3), far(1, 3)]
        calls += [cut(1, 3), far(1, 3), node(), edge(2, 4, 1), edge(4, 3, 1), far(1, 3)]
        self.assertEqual(ask(calls)[5:], [[4, 1], [3], [4, 2], [2], [4, 1], [1], [-3], [4], [2], [3], [4, 1]])


class WayTest(unittest.TestCase):
    def test_one_edge(self):
        self.assertEqual(ask_about(graph(2, [(2, 1, 7)]), [way(2, 1, 0)]), [[2, 2, 1]])

    def test_lower_node_at_the_first_difference_comes_first(self):
        questions = [way(1, 4, k) for k in range(3)]
        self.assertEqual(ask_about(graph(4, DIAMOND), questions), [[3, 1, 2, 4], [3, 1, 3, 4], [-3]])

    def test_order_does_not_depend_on_how_many_nodes(self):
        # By nodes: 1 2 5; 1 3 4 5; 1 5, the edge itself, comes last as 5 is the highest second node.
        building = graph(5, [(1, 5, 3), (4, 5, 1), (3, 4, 1), (1, 3, 1), (2, 5, 2), (1, 2, 1)])
        questions = [way(1, 5, k) for k in range(4)]
        self.assertEqual(ask_about(building, questions), [[3, 1, 2, 5], [4, 1, 3, 4, 5], [2, 1, 5], [-3]])

    def test_the_edge_itself_comes_first_where_its_end_is_low(self):
        building = graph(3, [(3, 1, 2), (3, 2, 1), (2, 1, 1)])
        self.assertEqual(ask_about(building, [way(3, 1, 0), way(3, 1, 1)]), [[2, 3, 1], [3, 3, 2, 1]])

    def test_differences_at_several_places(self):
        building = graph(7, [(7, x, 1) for x in (2, 5)] + [(x, 3, 1) for x in (2, 5)]
                         + [(3, x, 1) for x in (4, 6)] + [(x, 1, 1) for x in (4, 6)])
        questions = [way(7, 1, k) for k in range(5)]
        rows = [[5, 7, x, 3, y, 1] for x in (2, 5) for y in (4, 6)]
        self.assertEqual(ask_about(building, questions), rows + [[-3]])

    def test_from_a_node_to_itself(self):
        building = graph(2, [(1, 2, 1), (2, 1, 1)])
        self.assertEqual(ask_about(building, [way(2, 2, 0), way(2, 2, 1), way(2, 2, HIGHEST)]), [[1, 2], [-3], [-3]])

    def test_number_too_high(self):
        self.assertEqual(ask_about(graph(4, DIAMOND), [way(1, 4, 2), way(1, 4, HIGHEST)]), [[-3], [-3]])

    def test_no_way(self):
        building = graph(3, [(1, 2, 1)])
        self.assertEqual(ask_about(building, [way(2, 1, 0), way(1, 3, 0), way(3, 1, HIGHEST)]), [[-3]] * 3)

    def test_no_such_node_is_told_ahead_of_no_such_number(self):
        pairs = [pair for other in (0, 4, HIGHEST) for pair in ((1, other), (other, 1), (other, other))]
        questions = [way(x, y, k) for x, y in pairs for k in (0, HIGHEST)]
        self.assertEqual(ask_about(graph(3, [(1, 2, 1)]), questions), [[-1]] * 18)


class BetweenTest(unittest.TestCase):
    def test_nothing_is_told_as_0_and_1(self):
        building = graph(3, [(1, 2, 1), (2, 3, 1)])
        self.assertEqual(ask_about(building, [between(1), between(3)]), [[0, 1]] * 2)

    def test_a_node_alone(self):
        self.assertEqual(ask([node(), between(1)]), [[1], [0, 1]])

    def test_one_direction_counts_once(self):
        self.assertEqual(ask_about(graph(3, [(1, 2, 1), (2, 3, 1)]), [between(2)]), [[1, 1]])

    def test_both_directions_count_twice(self):
        building = graph(3, both_ways([(1, 2), (2, 3)]))
        self.assertEqual(ask_about(building, [between(2)]), [[2, 1]])

    def test_whole_numbers_in_a_row_of_five(self):
        building = graph(5, both_ways([(1, 2), (2, 3), (3, 4), (4, 5)]))
        questions = [between(v) for v in range(1, 6)]
        self.assertEqual(ask_about(building, questions), [[0, 1], [6, 1], [8, 1], [6, 1], [0, 1]])

    def test_halves(self):
        questions = [between(v) for v in range(1, 5)]
        self.assertEqual(ask_about(graph(4, DIAMOND), questions), [[0, 1], [1, 2], [1, 2], [0, 1]])

    def test_halves_together_in_lowest_terms(self):
        # In a ring of four each lies on one of two ways between its neighbours, in both orders.
        building = graph(4, both_ways([(1, 2), (2, 3), (3, 4), (4, 1)]))
        self.assertEqual(ask_about(building, [between(v) for v in range(1, 5)]), [[1, 1]] * 4)

    def test_unlike_parts_together(self):
        # 1 to 5 by 2, 3 or 4, and 6 to 5 by 2 or 3: a third and a half for 2 and for 3.
        building = graph(6, [(1, 2, 1), (1, 3, 1), (1, 4, 1), (2, 5, 1), (3, 5, 1), (4, 5, 1), (6, 2, 1), (6, 3, 1)])
        questions = [between(v) for v in (2, 3, 4, 5)]
        self.assertEqual(ask_about(building, questions), [[5, 6], [5, 6], [1, 3], [0, 1]])

    def test_each_way_counts_by_itself(self):
        # 1 to 6: by 2 and 3, by 2 and 4, by 5 alone. Two of three go by 2.
        building = graph(6, [(1, 2, 1), (2, 3, 1), (2, 4, 1), (3, 6, 1), (4, 6, 1), (1, 5, 1), (5, 6, 2)])
        self.assertEqual(ask_about(building, [between(2), between(5)]), [[8, 3], [1, 3]])

    def test_a_ring_of_one_direction(self):
        building = graph(4, [(1, 2, 1), (2, 3, 1), (3, 4, 1), (4, 1, 1)])
        self.assertEqual(ask_about(building, [between(v) for v in range(1, 5)]), [[3, 1]] * 4)

    def test_no_such_node(self):
        building = graph(3, [(1, 2, 1), (2, 3, 1)])
        self.assertEqual(ask_about(building, [between(0), between(4), between(HIGHEST)]), [[-1]] * 3)

    def test_without_nodes(self):
        self.assertEqual(ask([between(1), between(0)]), [[-1], [-1]])


if __name__ == "__main__":
    unittest.main()
