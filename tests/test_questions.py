"""Promise 2: far, way, near, needed and hurt; and middle, which refuses nothing."""

import unittest

from tests.calls import (DIAMOND, HIGHEST, ask, ask_about, both_ways, cut, edge, far, graph, hurt, middle, near, needed,
                         node, way)


class FarTest(unittest.TestCase):
    def test_one_edge(self):
        self.assertEqual(ask_about(graph(2, [(1, 2, 7)]), [far(1, 2)]), [[7, 1]])

    def test_from_a_node_to_itself(self):
        building = graph(3, [(1, 2, 1), (2, 1, 1)])
        self.assertEqual(ask_about(building, [far(1, 1), far(2, 2), far(3, 3)]), [[0, 1]] * 3)

    def test_several_as_short(self):
        self.assertEqual(ask_about(graph(4, DIAMOND), [far(1, 4)]), [[4, 2]])

    def test_an_edge_as_short_as_ways_of_more_edges(self):
        building = graph(4, [(1, 2, 1), (2, 3, 1), (3, 4, 1), (1, 4, 3), (1, 3, 2), (2, 4, 2)])
        self.assertEqual(ask_about(building, [far(1, 4), far(1, 3), far(2, 4)]), [[3, 4], [2, 2], [2, 2]])

    def test_more_edges_that_are_shorter_than_one(self):
        building = graph(4, [(1, 4, 9), (1, 2, 2), (2, 3, 2), (3, 4, 2)])
        self.assertEqual(ask_about(building, [far(1, 4)]), [[6, 1]])

    def test_all_nodes_on_one_way_against_their_order(self):
        building = graph(12, [(x, x - 1, 9) for x in range(2, 13)])
        self.assertEqual(ask_about(building, [far(12, 1), far(1, 12)]), [[99, 1], [-3]])

    def test_no_way(self):
        building = graph(3, [(1, 2, 1), (3, 2, 1)])
        self.assertEqual(ask_about(building, [far(2, 1), far(1, 3), far(2, 3)]), [[-3]] * 3)

    def test_no_such_node(self):
        questions = [far(*pair) for other in (0, 4, HIGHEST) for pair in ((1, other), (other, 1), (other, other))]
        self.assertEqual(ask_about(graph(3, [(1, 2, 1)]), questions), [[-1]] * 9)

    def test_without_nodes(self):
        self.assertEqual(ask([far(1, 1), far(0, 0)]), [[-1], [-1]])

    def test_follows_each_change(self):
        calls = graph(3, [(1, 2, 2), (2, 3, 2)]) + [far(1, 3), edge(1, 3, 4), far(1, 3), cut(2, 3), far(1, 3)]
        calls += [cut(1, 3), far(1, 3), node(), edge(2, 4, 1), edge(4, 3, 1), far(1, 3)]
        self.assertEqual(ask(calls)[5:], [[4, 1], [3], [4, 2], [2], [4, 1], [1], [-3], [4], [2], [3], [4, 1]])


class WayTest(unittest.TestCase):
    def test_one_edge(self):
        self.assertEqual(ask_about(graph(2, [(2, 1, 7)]), [way(2, 1, 0)]), [[2, 2, 1]])

    def test_lower_node_at_the_first_difference_comes_first(self):
        questions = [way(1, 4, k) for k in range(3)]
        self.assertEqual(ask_about(graph(4, DIAMOND), questions), [[3, 1, 2, 4], [3, 1, 3, 4], [-3]])

    def test_order_does_not_depend_on_how_many_nodes(self):
        # By nodes: 1 2 5; 1 3 4 5; 1 5, the edge itself, comes last as 5 is the highest second node.
        building = graph(5, [(1, 5, 3), (4, 5, 1), (3, 4, 1), (1, 3, 1), (2, 5, 2), (1, 2, 1)])
        questions = [way(1, 5, k) for k in range(4)]
        self.assertEqual(ask_about(building, questions), [[3, 1, 2, 5], [4, 1, 3, 4, 5], [2, 1, 5], [-3]])

    def test_the_edge_itself_comes_first_where_its_end_is_low(self):
        building = graph(3, [(3, 1, 2), (3, 2, 1), (2, 1, 1)])
        self.assertEqual(ask_about(building, [way(3, 1, 0), way(3, 1, 1)]), [[2, 3, 1], [3, 3, 2, 1]])

    def test_differences_at_several_places(self):
        building = graph(7, [(7, x, 1) for x in (2, 5)] + [(x, 3, 1) for x in (2, 5)]
                         + [(3, x, 1) for x in (4, 6)] + [(x, 1, 1) for x in (4, 6)])
        questions = [way(7, 1, k) for k in range(5)]
        rows = [[5, 7, x, 3, y, 1] for x in (2, 5) for y in (4, 6)]
        self.assertEqual(ask_about(building, questions), rows + [[-3]])

    def test_from_a_node_to_itself(self):
        building = graph(2, [(1, 2, 1), (2, 1, 1)])
        self.assertEqual(ask_about(building, [way(2, 2, 0), way(2, 2, 1), way(2, 2, HIGHEST)]), [[1, 2], [-3], [-3]])

    def test_number_too_high(self):
        self.assertEqual(ask_about(graph(4, DIAMOND), [way(1, 4, 2), way(1, 4, HIGHEST)]), [[-3], [-3]])

    def test_no_way(self):
        building = graph(3, [(1, 2, 1)])
        self.assertEqual(ask_about(building, [way(2, 1, 0), way(1, 3, 0), way(3, 1, HIGHEST)]), [[-3]] * 3)

    def test_no_such_node_is_told_ahead_of_no_such_number(self):
        pairs = [pair for other in (0, 4, HIGHEST) for pair in ((1, other), (other, 1), (other, other))]
        questions = [way(x, y, k) for x, y in pairs for k in (0, HIGHEST)]
        self.assertEqual(ask_about(graph(3, [(1, 2, 1)]), questions), [[-1]] * 18)


class NearTest(unittest.TestCase):
    def test_to_all_others(self):
        building = graph(3, [(1, 2, 4), (2, 3, 5), (3, 1, 1)])
        self.assertEqual(ask_about(building, [near(1), near(2), near(3)]), [[2, 13, 9], [2, 11, 6], [2, 6, 5]])

    def test_leads_nowhere(self):
        building = graph(3, [(1, 2, 4), (3, 2, 1)])
        self.assertEqual(ask_about(building, [near(2)]), [[0, 0, 0]])

    def test_a_node_alone(self):
        self.assertEqual(ask([node(), near(1)]), [[1], [0, 0, 0]])

    def test_ways_that_are_shorter_than_an_edge(self):
        building = graph(4, [(1, 4, 9), (1, 2, 2), (2, 3, 2), (3, 4, 2), (1, 3, 8)])
        self.assertEqual(ask_about(building, [near(1)]), [[3, 12, 6]])

    def test_several_as_short_count_once(self):
        self.assertEqual(ask_about(graph(4, DIAMOND), [near(1)]), [[3, 7, 4]])

    def test_not_all_are_reached(self):
        building = graph(6, [(1, 2, 3), (2, 3, 3), (4, 1, 1), (5, 6, 9)])
        questions = [near(x) for x in range(1, 7)]
        self.assertEqual(ask_about(building, questions),
                         [[2, 9, 6], [1, 3, 3], [0, 0, 0], [3, 12, 7], [1, 9, 9], [0, 0, 0]])

    def test_the_way_back_does_not_count(self):
        building = graph(2, [(1, 2, 1), (2, 1, 9)])
        self.assertEqual(ask_about(building, [near(1), near(2)]), [[1, 1, 1], [1, 9, 9]])

    def test_the_farthest_of_twelve(self):
        building = graph(12, [(x, x - 1, 9) for x in range(2, 13)])
        self.assertEqual(ask_about(building, [near(12), near(2), near(1)]), [[11, 594, 99], [1, 9, 9], [0, 0, 0]])

    def test_no_such_node(self):
        building = graph(3, [(1, 2, 1)])
        self.assertEqual(ask_about(building, [near(0), near(4), near(HIGHEST)]), [[-1]] * 3)

    def test_without_nodes(self):
        self.assertEqual(ask([near(1), near(0)]), [[-1], [-1]])

    def test_follows_each_change(self):
        calls = graph(3, [(1, 2, 2), (2, 3, 2)]) + [near(1), edge(1, 3, 1), near(1), cut(1, 2), near(1)]
        self.assertEqual(ask(calls)[5:], [[2, 6, 4], [3], [2, 3, 2], [2], [1, 1, 1]])


class NeededTest(unittest.TestCase):
    def test_none_on_an_edge(self):
        self.assertEqual(ask_about(graph(3, [(1, 2, 7), (2, 3, 1)]), [needed(1, 2)]), [[0]])

    def test_one(self):
        self.assertEqual(ask_about(graph(3, [(1, 2, 7), (2, 3, 1)]), [needed(1, 3)]), [[1, 2]])

    def test_several_rise_whatever_their_place_on_the_way(self):
        building = graph(6, [(3, 6, 1), (6, 1, 2), (1, 5, 3), (5, 2, 1), (2, 4, 1)])
        self.assertEqual(ask_about(building, [needed(3, 4), needed(6, 2)]), [[4, 1, 2, 5, 6], [2, 1, 5]])

    def test_on_some_of_the_shortest_ways_but_not_on_all(self):
        self.assertEqual(ask_about(graph(4, DIAMOND), [needed(1, 4)]), [[0]])

    def test_on_most_of_the_shortest_ways_but_not_on_all(self):
        # 1 to 6: by 2 and 3, by 2 and 4, by 5 alone.
        building = graph(6, [(1, 2, 1), (2, 3, 1), (2, 4, 1), (3, 6, 1), (4, 6, 1), (1, 5, 1), (5, 6, 2)])
        self.assertEqual(ask_about(building, [needed(1, 6)]), [[0]])

    def test_where_ways_part_and_meet(self):
        # 7 to 1: by 2 or 5, then by 3, then by 4 or 6.
        building = graph(7, [(7, x, 1) for x in (2, 5)] + [(x, 3, 1) for x in (2, 5)]
                         + [(3, x, 1) for x in (4, 6)] + [(x, 1, 1) for x in (4, 6)])
        self.assertEqual(ask_about(building, [needed(7, 1), needed(7, 3), needed(2, 1)]), [[1, 3], [0], [1, 3]])

    def test_longer_ways_do_not_count(self):
        building = graph(3, [(1, 2, 1), (2, 3, 1), (1, 3, 3)])
        self.assertEqual(ask_about(building, [needed(1, 3)]), [[1, 2]])
        building = graph(3, [(1, 2, 1), (2, 3, 1), (1, 3, 1)])
        self.assertEqual(ask_about(building, [needed(1, 3)]), [[0]])

    def test_an_edge_as_short_as_the_way_by_a_node(self):
        building = graph(3, [(1, 2, 1), (2, 3, 1), (1, 3, 2)])
        self.assertEqual(ask_about(building, [needed(1, 3)]), [[0]])

    def test_no_such_node(self):
        questions = [needed(*pair) for other in (0, 4, HIGHEST) for pair in ((1, other), (other, 1))]
        self.assertEqual(ask_about(graph(3, [(1, 2, 1)]), questions), [[-1]] * 6)

    def test_no_such_node_is_told_ahead_of_the_same_node(self):
        self.assertEqual(ask_about(graph(3, [(1, 2, 1)]), [needed(x, x) for x in (0, 4, HIGHEST)]), [[-1]] * 3)

    def test_from_a_node_to_itself(self):
        building = graph(3, [(1, 2, 1), (2, 1, 1)])
        self.assertEqual(ask_about(building, [needed(x, x) for x in (1, 2, 3)]), [[-3]] * 3)

    def test_no_way(self):
        building = graph(3, [(1, 2, 1), (3, 2, 1)])
        self.assertEqual(ask_about(building, [needed(2, 1), needed(1, 3), needed(2, 3)]), [[-3]] * 3)

    def test_without_nodes(self):
        self.assertEqual(ask([needed(1, 1), needed(1, 2), needed(0, 0)]), [[-1]] * 3)


class HurtTest(unittest.TestCase):
    def test_no_pair_at_the_ends_of_a_way(self):
        building = graph(3, [(1, 2, 1), (2, 3, 1)])
        self.assertEqual(ask_about(building, [hurt(1), hurt(3)]), [[0], [0]])

    def test_a_node_alone(self):
        self.assertEqual(ask([node(), hurt(1)]), [[1], [0]])

    def test_a_pair_that_would_have_no_way_any_more(self):
        self.assertEqual(ask_about(graph(3, [(1, 2, 1), (2, 3, 1)]), [hurt(2)]), [[1, 1, 3]])

    def test_a_pair_whose_ways_would_be_longer(self):
        building = graph(3, [(1, 2, 1), (2, 3, 1), (1, 3, 3)])
        self.assertEqual(ask_about(building, [hurt(2)]), [[1, 1, 3]])

    def test_a_pair_with_another_way_as_short_is_not_told(self):
        building = graph(3, [(1, 2, 1), (2, 3, 1), (1, 3, 2)])
        self.assertEqual(ask_about(building, [hurt(2)]), [[0]])
        self.assertEqual(ask_about(graph(4, DIAMOND), [hurt(2), hurt(3)]), [[0], [0]])

    def test_a_pair_with_no_way_at_all_is_not_told(self):
        building = graph(4, [(1, 2, 1), (3, 2, 1), (2, 4, 1)])
        self.assertEqual(ask_about(building, [hurt(2)]), [[2, 1, 4, 3, 4]])

    def test_longer_gone_and_as_short_beside_each_other(self):
        # By 3: 1 to 5 has the edge, which is longer; 2 to 5 nothing else; 1 to 4 the edge, as short; 2 to 4 by 6.
        building = graph(6, [(1, 3, 1), (2, 3, 1), (3, 4, 1), (3, 5, 1), (1, 5, 9), (1, 4, 2), (2, 6, 1), (6, 4, 1)])
        self.assertEqual(ask_about(building, [hurt(3)]), [[2, 1, 5, 2, 5]])

    def test_order_of_the_pairs(self):
        # The edges come in against the order in which the pairs are told.
        building = graph(4, [(4, 2, 1), (3, 2, 1), (2, 4, 1), (2, 3, 1), (1, 2, 1), (2, 1, 1)])
        self.assertEqual(ask_about(building, [hurt(2)]), [[6, 1, 3, 1, 4, 3, 1, 3, 4, 4, 1, 4, 3]])

    def test_a_ring_of_one_direction(self):
        building = graph(4, [(1, 2, 1), (2, 3, 1), (3, 4, 1), (4, 1, 1)])
        self.assertEqual(ask_about(building, [hurt(1), hurt(3)]), [[3, 3, 2, 4, 2, 4, 3], [3, 1, 4, 2, 1, 2, 4]])

    def test_pairs_with_the_node_itself_are_not_told(self):
        self.assertEqual(ask_about(graph(2, both_ways([(1, 2)])), [hurt(1), hurt(2)]), [[0], [0]])

    def test_twelve_nodes_around_one(self):
        edges = [(x, 12, 1) for x in range(1, 12)] + [(12, x, 1) for x in range(1, 12)]
        pairs = [number for s in range(1, 12) for e in range(1, 12) if s != e for number in (s, e)]
        self.assertEqual(ask_about(graph(12, edges), [hurt(12), hurt(1)]), [[110] + pairs, [0]])

    def test_leaves_the_edges_where_they_are(self):
        building = graph(3, [(1, 2, 1), (2, 3, 1)])
        self.assertEqual(ask_about(building, [hurt(2), far(1, 3), hurt(2), cut(1, 2)]),
                         [[1, 1, 3], [2, 1], [1, 1, 3], [1]])

    def test_no_such_node(self):
        building = graph(3, [(1, 2, 1), (2, 3, 1)])
        self.assertEqual(ask_about(building, [hurt(0), hurt(4), hurt(HIGHEST)]), [[-1]] * 3)

    def test_without_nodes(self):
        self.assertEqual(ask([hurt(1), hurt(0)]), [[-1], [-1]])


class MiddleTest(unittest.TestCase):
    def test_without_nodes(self):
        self.assertEqual(ask([middle()]), [[0]])

    def test_one_node(self):
        self.assertEqual(ask([node(), middle()]), [[1], [1, 1]])

    def test_no_node_reaches_all_others(self):
        self.assertEqual(ask([node(), node(), middle()])[2:], [[0]])
        building = graph(4, [(1, 2, 1), (2, 3, 1), (4, 2, 1)])
        self.assertEqual(ask_about(building, [middle()]), [[0]])

    def test_one(self):
        building = graph(5, both_ways([(1, 2), (2, 4), (4, 3), (3, 5)]))
        self.assertEqual(ask_about(building, [middle()]), [[1, 4]])

    def test_several_rise(self):
        building = graph(4, both_ways([(4, 3), (3, 1), (1, 2)]))
        self.assertEqual(ask_about(building, [middle()]), [[2, 1, 3]])

    def test_all_of_a_ring(self):
        building = graph(4, [(3, 4, 1), (4, 1, 1), (1, 2, 1), (2, 3, 1)])
        self.assertEqual(ask_about(building, [middle()]), [[4, 1, 2, 3, 4]])

    def test_only_ways_that_lead_away_count(self):
        # From 3 alone there's a way to all, though 1 is nearer to those that it reaches.
        building = graph(4, [(3, 1, 9), (1, 2, 1), (1, 4, 1)])
        self.assertEqual(ask_about(building, [middle()]), [[1, 3]])

    def test_lengths_that_differ_by_direction(self):
        # From 1 the longest is 3, from 2 it's 9, from 3 it's 10.
        building = graph(3, [(1, 2, 1), (2, 1, 9), (2, 3, 2), (3, 2, 1)])
        self.assertEqual(ask_about(building, [middle()]), [[1, 1]])

    def test_the_longest_counts_and_not_all_together(self):
        # From 1: 5 to each, 15 together; from 2: 1 and 1 and 6, 8 together.
        building = graph(4, [(1, 2, 5), (1, 3, 5), (1, 4, 5), (2, 1, 1), (2, 3, 1)])
        self.assertEqual(ask_about(building, [near(1), near(2), middle()]), [[3, 15, 5], [3, 8, 6], [1, 1]])

    def test_a_node_that_reaches_fewer_is_none_though_its_longest_is_shorter(self):
        building = graph(3, [(1, 2, 4), (2, 3, 1)])
        self.assertEqual(ask_about(building, [middle()]), [[1, 1]])

    def test_follows_each_change(self):
        calls = [node(), middle(), node(), middle(), edge(2, 1, 3), middle(), edge(1, 2, 3), middle(), cut(2, 1),
                 middle(), node(), middle()]
        self.assertEqual(ask(calls), [[1], [1, 1], [2], [0], [1], [1, 2], [2], [2, 1, 2], [1], [1, 1], [3], [0]])


if __name__ == "__main__":
    unittest.main()
