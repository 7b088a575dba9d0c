"""Promise 2: between; promise 1: share; and ranking, which refuses nothing."""

import unittest

from tests.calls import (DIAMOND, HIGHEST, ask, ask_about, between, both_ways, cut, edge, far, graph, node, ranking,
                         share)

# 1 to 5 by 2, 3 or 4; 6 to 5 by 2 or 3.
THIRDS_AND_HALVES = [(1, 2, 1), (1, 3, 1), (1, 4, 1), (2, 5, 1), (3, 5, 1), (4, 5, 1), (6, 2, 1), (6, 3, 1)]


class BetweenTest(unittest.TestCase):
    def test_nothing_is_told_as_0_and_1(self):
        building = graph(3, [(1, 2, 1), (2, 3, 1)])
        self.assertEqual(ask_about(building, [between(1), between(3)]), [[0, 1]] * 2)

    def test_a_node_alone(self):
        self.assertEqual(ask([node(), between(1)]), [[1], [0, 1]])

    def test_one_direction_counts_once(self):
        self.assertEqual(ask_about(graph(3, [(1, 2, 1), (2, 3, 1)]), [between(2)]), [[1, 1]])

    def test_both_directions_count_twice(self):
        building = graph(3, both_ways([(1, 2), (2, 3)]))
        self.assertEqual(ask_about(building, [between(2)]), [[2, 1]])

    def test_whole_numbers_in_a_row_of_five(self):
        building = graph(5, both_ways([(1, 2), (2, 3), (3, 4), (4, 5)]))
        questions = [between(v) for v in range(1, 6)]
        self.assertEqual(ask_about(building, questions), [[0, 1], [6, 1], [8, 1], [6, 1], [0, 1]])

    def test_halves(self):
        questions = [between(v) for v in range(1, 5)]
        self.assertEqual(ask_about(graph(4, DIAMOND), questions), [[0, 1], [1, 2], [1, 2], [0, 1]])

    def test_halves_together_in_lowest_terms(self):
        # In a ring of four each lies on one of two ways between its neighbours, in both orders.
        building = graph(4, both_ways([(1, 2), (2, 3), (3, 4), (4, 1)]))
        self.assertEqual(ask_about(building, [between(v) for v in range(1, 5)]), [[1, 1]] * 4)

    def test_unlike_parts_together(self):
        # A third and a half for 2 and for 3.
        questions = [between(v) for v in (2, 3, 4, 5)]
        self.assertEqual(ask_about(graph(6, THIRDS_AND_HALVES), questions), [[5, 6], [5, 6], [1, 3], [0, 1]])

    def test_each_way_counts_by_itself(self):
        # 1 to 6: by 2 and 3, by 2 and 4, by 5 alone. Two of three go by 2.
        building = graph(6, [(1, 2, 1), (2, 3, 1), (2, 4, 1), (3, 6, 1), (4, 6, 1), (1, 5, 1), (5, 6, 2)])
        self.assertEqual(ask_about(building, [between(2), between(5)]), [[8, 3], [1, 3]])

    def test_a_ring_of_one_direction(self):
        building = graph(4, [(1, 2, 1), (2, 3, 1), (3, 4, 1), (4, 1, 1)])
        self.assertEqual(ask_about(building, [between(v) for v in range(1, 5)]), [[3, 1]] * 4)

    def test_no_such_node(self):
        building = graph(3, [(1, 2, 1), (2, 3, 1)])
        self.assertEqual(ask_about(building, [between(0), between(4), between(HIGHEST)]), [[-1]] * 3)

    def test_without_nodes(self):
        self.assertEqual(ask([between(1), between(0)]), [[-1], [-1]])


class ShareTest(unittest.TestCase):
    def test_the_pair_of_its_own_ends_counts(self):
        self.assertEqual(ask_about(graph(2, [(1, 2, 7)]), [share(1, 2)]), [[1, 1]])

    def test_pairs_that_begin_or_end_at_its_ends_count(self):
        # 2 to 3 itself; 1 to 3, which ends where it ends; 2 to 4, which begins where it begins; 1 to 4 by both.
        building = graph(4, [(1, 2, 1), (2, 3, 5), (3, 4, 1)])
        self.assertEqual(ask_about(building, [share(1, 2), share(2, 3), share(3, 4)]), [[3, 1], [4, 1], [3, 1]])

    def test_only_its_own_direction_counts(self):
        building = graph(3, [(1, 2, 1), (2, 1, 1), (2, 3, 1)])
        self.assertEqual(ask_about(building, [share(1, 2), share(2, 1), share(2, 3)]), [[2, 1], [1, 1], [2, 1]])

    def test_on_no_shortest_way(self):
        building = graph(3, [(1, 2, 1), (2, 3, 1), (1, 3, 3)])
        self.assertEqual(ask_about(building, [share(1, 3)]), [[0, 1]])
        self.assertEqual(ask_about(graph(4, DIAMOND), [share(1, 4)]), [[0, 1]])

    def test_halves(self):
        # Each is the whole of its own pair and a half of 1 to 4.
        questions = [share(1, 2), share(2, 4), share(1, 3), share(3, 4)]
        self.assertEqual(ask_about(graph(4, DIAMOND), questions), [[3, 2]] * 4)

    def test_an_edge_as_short_as_the_way_by_a_node(self):
        building = graph(3, [(1, 2, 1), (2, 3, 1), (1, 3, 2)])
        self.assertEqual(ask_about(building, [share(1, 3), share(1, 2), share(2, 3)]), [[1, 2], [3, 2], [3, 2]])

    def test_unlike_parts_together_in_lowest_terms(self):
        # 2 to 5: its own pair, a third of 1 to 5, a half of 6 to 5. 4 to 5: its own pair and a third.
        questions = [share(2, 5), share(4, 5), share(1, 2), share(6, 3)]
        self.assertEqual(ask_about(graph(6, THIRDS_AND_HALVES), questions), [[11, 6], [4, 3], [4, 3], [3, 2]])

    def test_halves_together_in_lowest_terms(self):
        # In a ring of four: its own pair, and a half each of the two pairs that go it on and stand opposite.
        building = graph(4, both_ways([(1, 2), (2, 3), (3, 4), (4, 1)]))
        questions = [share(1, 2), share(2, 1), share(4, 1), share(3, 2)]
        self.assertEqual(ask_about(building, questions), [[2, 1]] * 4)

    def test_each_way_counts_by_itself(self):
        # 1 to 6: by 2 and 3, by 2 and 4, by 5 alone. Two of three go from 1 to 2; 1 to 3 and 1 to 4 go so too.
        building = graph(6, [(1, 2, 1), (2, 3, 1), (2, 4, 1), (3, 6, 1), (4, 6, 1), (1, 5, 1), (5, 6, 2)])
        self.assertEqual(ask_about(building, [share(1, 2), share(2, 3), share(5, 6)]), [[11, 3], [17, 6], [4, 3]])

    def test_a_ring_of_one_direction(self):
        building = graph(4, [(1, 2, 1), (2, 3, 1), (3, 4, 1), (4, 1, 1)])
        self.assertEqual(ask_about(building, [share(1, 2), share(4, 1)]), [[6, 1], [6, 1]])

    def test_no_such_edge(self):
        building = graph(3, [(1, 2, 5)])
        self.assertEqual(ask_about(building, [share(2, 1), share(1, 3), share(1, 1)]), [[-3]] * 3)

    def test_a_way_is_no_edge(self):
        self.assertEqual(ask_about(graph(3, [(1, 2, 1), (2, 3, 1)]), [share(1, 3)]), [[-3]])

    def test_no_such_node_is_no_such_edge(self):
        questions = [share(*pair) for other in (0, 4, HIGHEST) for pair in ((1, other), (other, 2), (other, other))]
        self.assertEqual(ask_about(graph(3, [(1, 2, 5)]), questions), [[-3]] * 9)

    def test_without_nodes(self):
        self.assertEqual(ask([share(1, 2), share(0, 0)]), [[-3], [-3]])

    def test_behind_a_cut(self):
        calls = graph(3, [(1, 2, 5), (2, 1, 5), (2, 3, 5)]) + [cut(1, 2), share(1, 2), share(2, 1), share(2, 3)]
        self.assertEqual(ask(calls)[6:], [[2], [-3], [1, 1], [1, 1]])

    def test_put_in_anew_with_another_length(self):
        calls = graph(3, [(1, 2, 1), (2, 3, 1), (1, 3, 9)]) + [share(1, 3), cut(1, 3), share(1, 3), edge(1, 3, 2),
                                                               share(1, 3), cut(1, 3), edge(1, 3, 1), share(1, 3)]
        self.assertEqual(ask(calls)[6:], [[0, 1], [2], [-3], [3], [1, 2], [2], [3], [1, 1]])


class RankingTest(unittest.TestCase):
    def test_none_asked_for(self):
        self.assertEqual(ask_about(graph(3, [(1, 2, 1), (2, 3, 1)]), [ranking(0)]), [[0]])

    def test_without_nodes(self):
        self.assertEqual(ask([ranking(0), ranking(1), ranking(HIGHEST)]), [[0]] * 3)

    def test_a_node_alone(self):
        self.assertEqual(ask([node(), ranking(1)]), [[1], [1, 1, 0, 1]])

    def test_the_first_ones(self):
        building = graph(5, both_ways([(1, 2), (2, 3), (3, 4), (4, 5)]))
        self.assertEqual(ask_about(building, [ranking(1), ranking(2), ranking(3), ranking(4)]),
                         [[1, 3, 8, 1], [2, 3, 8, 1, 2, 6, 1], [3, 3, 8, 1, 2, 6, 1, 4, 6, 1],
                          [4, 3, 8, 1, 2, 6, 1, 4, 6, 1, 1, 0, 1]])

    def test_as_many_as_there_are_and_more(self):
        building = graph(3, [(1, 2, 1), (2, 3, 1)])
        wanted = [3, 2, 1, 1, 1, 0, 1, 3, 0, 1]
        self.assertEqual(ask_about(building, [ranking(3), ranking(4), ranking(12), ranking(HIGHEST)]), [wanted] * 4)

    def test_of_as_great_ones_the_lower_node(self):
        building = graph(4, both_ways([(1, 2), (2, 3), (3, 4), (4, 1)]))
        self.assertEqual(ask_about(building, [ranking(4)]), [[4, 1, 1, 1, 2, 1, 1, 3, 1, 1, 4, 1, 1]])

    def test_without_edges(self):
        wanted = [12] + [number for x in range(1, 13) for number in (x, 0, 1)]
        self.assertEqual(ask_about(graph(12, []), [ranking(12)]), [wanted])

    def test_unlike_numbers_below_the_line(self):
        self.assertEqual(ask_about(graph(6, THIRDS_AND_HALVES), [ranking(6)]),
                         [[6, 2, 5, 6, 3, 5, 6, 4, 1, 3, 1, 0, 1, 5, 0, 1, 6, 0, 1]])

    def test_halves_ahead_of_thirds(self):
        # 1 to 5 by 2, 3 or 4; 6 to 9 by 7 or 8.
        building = graph(9, [(1, 2, 1), (1, 3, 1), (1, 4, 1), (2, 5, 1), (3, 5, 1), (4, 5, 1),
                             (6, 7, 1), (6, 8, 1), (7, 9, 1), (8, 9, 1)])
        self.assertEqual(ask_about(building, [ranking(5)]), [[5, 7, 1, 2, 8, 1, 2, 2, 1, 3, 3, 1, 3, 4, 1, 3]])

    def test_neither_the_number_above_nor_the_one_below_alone(self):
        # 1 to 6 goes by 2 and 3, by 2 and 4, or by 5 alone: 3 and 4 have a third of it and a half of 2 to 6.
        building = graph(6, [(1, 2, 1), (2, 3, 1), (2, 4, 1), (3, 6, 1), (4, 6, 1), (1, 5, 1), (5, 6, 2)])
        self.assertEqual(ask_about(building, [ranking(6)]),
                         [[6, 2, 8, 3, 3, 5, 6, 4, 5, 6, 5, 1, 3, 1, 0, 1, 6, 0, 1]])

    def test_a_whole_between_fractions(self):
        # 1 to 4 goes by 2 or 3, 1 to 5 by 2 alone, 6 to 8 by 7 alone.
        building = graph(8, [(1, 2, 1), (1, 3, 1), (2, 4, 1), (3, 4, 1), (2, 5, 1), (6, 7, 1), (7, 8, 1)])
        self.assertEqual(ask_about(building, [ranking(4)]), [[4, 2, 3, 2, 7, 1, 1, 3, 1, 2, 1, 0, 1]])

    def test_follows_each_change(self):
        calls = graph(3, [(1, 2, 1), (2, 3, 1)]) + [ranking(1), edge(3, 1, 1), edge(1, 3, 1), ranking(1), cut(1, 2),
                                                    ranking(2), far(1, 2)]
        # With all four edges 1 and 3 lie between by 1 each; without the one from 1 to 2 it's 3 alone.
        self.assertEqual(ask(calls)[5:], [[1, 2, 1, 1], [3], [4], [1, 1, 1, 1], [3], [2, 3, 1, 1, 1, 0, 1], [-3]])


if __name__ == "__main__":
    unittest.main()
