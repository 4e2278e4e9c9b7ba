"""interval, directed and cliques on chosen graphs: the document's examples and its edges."""

import unittest

from goodkinds.graphs import cliques, directed, interval
from making import all_pairs, graph_of, path_of, ring_of

STAR = [(0, 1), (0, 2), (0, 3)]
# A ring of three, and to each of its nodes another joined.
NET = ring_of(0, 1, 2) + [(0, 3), (1, 4), (2, 5)]
EIGHT_JOINED = graph_of(8, all_pairs(8))
RING_OF_EIGHT = graph_of(8, ring_of(0, 1, 2, 3, 4, 5, 6, 7))


class Interval(unittest.TestCase):
    def test_examples(self):
        self.assertEqual(interval([10, 5, 10, 5]), [0, 0, 1, 2, 3])
        self.assertEqual(interval([2, 5, 10, 4]), [1, 0, 0, 0, 1, 1, 2, 2, 2])

    def test_one_node_and_eight(self):
        self.assertEqual(interval([0]), [1, 0, 0])
        self.assertEqual(interval([0] * 8), [1, 0, 0, 1, 1, 2, 2, 3, 3, 4, 4, 5, 5, 6, 6, 7, 7])
        self.assertEqual(interval(EIGHT_JOINED), [1] + [0] * 16)
        self.assertEqual(interval(RING_OF_EIGHT), [0, 0, 1, 2, 3, 4, 5, 6, 7])

    def test_those_not_joined_do_not_touch(self):
        self.assertEqual(interval(graph_of(2, [])), [1, 0, 0, 1, 1])
        self.assertEqual(interval(graph_of(3, path_of(0, 1, 2))), [1, 0, 0, 0, 1, 1, 1])

    def test_order_of_the_cliques_is_the_first(self):
        self.assertEqual(interval(graph_of(4, STAR)), [1, 0, 2, 0, 0, 1, 1, 2, 2])
        # The cliques are 3, 5 and 10, and only 5 3 10 and 10 3 5 keep each node's side by side.
        self.assertEqual(interval(graph_of(4, path_of(2, 0, 1, 3))), [1, 0, 1, 1, 2, 0, 0, 2, 2])
        # 5, 10 and 12: 5 12 10.
        self.assertEqual(interval(graph_of(4, path_of(0, 2, 3, 1))), [1, 0, 0, 2, 2, 0, 1, 1, 2])

    def test_graph_that_does_not_hang_together(self):
        self.assertEqual(interval(graph_of(4, [(0, 3), (1, 2)])), [1, 1, 1, 0, 0, 0, 0, 1, 1])
        self.assertEqual(interval(graph_of(5, [(1, 2), (1, 4)])), [1, 0, 0, 1, 2, 1, 1, 3, 3, 2, 2])
        # The cliques are 1, 6, 10, 48 and 80, the parts' in the order of their least clique.
        apart = graph_of(7, [(1, 2), (1, 3), (4, 5), (4, 6)])
        self.assertEqual(interval(apart), [1, 0, 0, 1, 2, 1, 1, 2, 2, 3, 4, 3, 3, 4, 4])
        self.assertEqual(interval(graph_of(6, [(0, 1)] + ring_of(2, 4, 3, 5))), [0, 2, 4, 3, 5])

    def test_three_nodes_apart(self):
        long_star = [(0, 3), (1, 4), (2, 5), (3, 6), (4, 6), (5, 6)]
        self.assertEqual(interval(graph_of(7, long_star)), [0, 0, 1, 2])
        self.assertEqual(interval(graph_of(6, NET)), [0, 3, 4, 5])
        sun = ring_of(0, 1, 2) + [(3, 0), (3, 1), (4, 1), (4, 2), (5, 2), (5, 0)]
        self.assertEqual(interval(graph_of(6, sun)), [0, 3, 4, 5])

    def test_first_three_nodes_apart(self):
        net_with_two_ends = NET + [(2, 6)]
        self.assertEqual(interval(graph_of(7, net_with_two_ends)), [0, 3, 4, 5])
        longer_net = NET + [(3, 6)]
        self.assertEqual(interval(graph_of(7, longer_net)), [0, 3, 4, 5])
        self.assertEqual(interval(graph_of(8, ring_of(5, 6, 7) + [(5, 2), (6, 0), (7, 4)])), [0, 0, 2, 4])

    def test_way_by_a_neighbour_of_the_third_does_not_count(self):
        self.assertEqual(interval(graph_of(5, [(4, 0), (4, 1), (4, 2)])), [1, 1, 1, 2, 2, 3, 3, 0, 0, 1, 3])
        self.assertEqual(interval(graph_of(5, ring_of(0, 1, 2) + [(0, 3), (1, 4)])), [1, 0, 1, 1, 2, 1, 1, 0, 0, 2, 2])

    def test_two_of_the_three_joined_do_not_count(self):
        near_net = ring_of(0, 1, 2) + [(0, 3), (1, 4), (2, 5), (4, 5)]
        self.assertEqual(interval(graph_of(6, near_net)), [0, 1, 2, 5, 4])
        long_path = graph_of(8, path_of(0, 1, 2, 3, 4, 5, 6, 7))
        self.assertEqual(interval(long_path), [1, 0, 0, 0, 1, 1, 2, 2, 3, 3, 4, 4, 5, 5, 6, 6, 6])

    def test_chordless_ring_ahead_of_three_nodes(self):
        self.assertEqual(interval(graph_of(6, ring_of(0, 1, 2, 3, 4, 5))), [0, 0, 1, 2, 3, 4, 5])
        net_and_ring = NET + [(2, 6), (7, 5), (7, 6)]
        self.assertEqual(interval(graph_of(8, net_and_ring)), [0, 2, 5, 7, 6])


class Directed(unittest.TestCase):
    def test_examples(self):
        self.assertEqual(directed([10, 5, 10, 5]), [0, 1])
        self.assertEqual(directed([2, 5, 10, 4]), [0, 1])

    def test_one_node_and_eight(self):
        self.assertEqual(directed([0]), [0, 1])
        self.assertEqual(directed([0] * 8), [0, 1])
        self.assertEqual(directed(EIGHT_JOINED), [0, 1])
        self.assertEqual(directed(RING_OF_EIGHT), [0, 1])

    def test_odd_rings_but_of_three_can_not(self):
        self.assertEqual(directed([6, 5, 3]), [0, 1])
        self.assertEqual(directed(graph_of(5, ring_of(0, 2, 4, 1, 3))), [0, 0])
        self.assertEqual(directed(graph_of(6, ring_of(0, 1, 2, 3, 4, 5))), [0, 1])
        self.assertEqual(directed(graph_of(7, ring_of(0, 1, 2, 3, 4, 5, 6))), [0, 0])

    def test_rings_of_three_among_other_pairs(self):
        self.assertEqual(directed(graph_of(6, NET)), [0, 0])
        self.assertEqual(directed(graph_of(5, ring_of(0, 1, 2) + [(0, 3), (1, 4)])), [0, 1])
        prism = ring_of(0, 1, 2) + ring_of(3, 4, 5) + [(0, 3), (1, 4), (2, 5)]
        self.assertEqual(directed(graph_of(6, prism)), [0, 0])

    def test_every_part_counts(self):
        self.assertEqual(directed(graph_of(8, ring_of(0, 1, 2) + ring_of(3, 4, 5, 6, 7))), [0, 0])
        self.assertEqual(directed(graph_of(8, ring_of(0, 1, 2, 3) + ring_of(4, 5, 6, 7))), [0, 1])


class Cliques(unittest.TestCase):
    def test_examples(self):
        self.assertEqual(cliques([10, 5, 10, 5]), [0, 3, 6, 9, 12])
        self.assertEqual(cliques([2, 5, 10, 4]), [0, 3, 6, 12])

    def test_one_node_and_eight(self):
        self.assertEqual(cliques([0]), [0, 1])
        self.assertEqual(cliques([0] * 8), [0, 1, 2, 4, 8, 16, 32, 64, 128])
        self.assertEqual(cliques(EIGHT_JOINED), [0, 255])

    def test_none_is_within_another(self):
        self.assertEqual(cliques([6, 5, 3]), [0, 7])
        self.assertEqual(cliques(graph_of(4, ring_of(0, 1, 2, 3) + [(0, 2)])), [0, 7, 13])
        self.assertEqual(cliques(graph_of(6, NET)), [0, 7, 9, 18, 36])

    def test_lesser_number_first(self):
        self.assertEqual(cliques(graph_of(4, [(0, 3), (1, 2)])), [0, 6, 9])
        self.assertEqual(cliques(graph_of(5, ring_of(0, 3, 4) + [(1, 2)])), [0, 6, 25])

    def test_single_nodes_count(self):
        self.assertEqual(cliques(graph_of(3, [(0, 1)])), [0, 3, 4])
        self.assertEqual(cliques(graph_of(3, [(1, 2)])), [0, 1, 6])

    def test_most_cliques_of_eight_nodes(self):
        groups = (0, 0, 0, 1, 1, 1, 2, 2)
        pairs = [(one, other) for one, other in all_pairs(8) if groups[one] != groups[other]]
        expected = sorted(
            (1 << one) + (1 << other) + (1 << third) for one in (0, 1, 2) for other in (3, 4, 5) for third in (6, 7)
        )
        self.assertEqual(cliques(graph_of(8, pairs)), [0] + expected)


if __name__ == "__main__":
    unittest.main()
