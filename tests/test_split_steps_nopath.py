"""split, steps and nopath on chosen graphs: the document's examples and its edges."""

import unittest

from goodkinds.graphs import nopath, split, steps
from making import all_pairs, graph_of, path_of, ring_of

STAR = [(0, 1), (0, 2), (0, 3)]
EIGHT_JOINED = graph_of(8, all_pairs(8))


class Split(unittest.TestCase):
    def test_examples(self):
        self.assertEqual(split([10, 5, 10, 5]), [0, 0, 1, 2, 3])
        self.assertEqual(split([2, 5, 10, 4]), [1, 0, 1, 1, 0])

    def test_one_node_and_eight(self):
        self.assertEqual(split([0]), [1, 0])
        self.assertEqual(split([0] * 8), [1, 0, 0, 0, 0, 0, 0, 0, 0])
        self.assertEqual(split(EIGHT_JOINED), [1, 0, 1, 1, 1, 1, 1, 1, 1])
        self.assertEqual(split(graph_of(8, ring_of(0, 1, 2, 3, 4, 5, 6, 7))), [0, 0, 1, 3, 4])

    def test_marks_are_the_first_not_those_with_the_most_ones(self):
        self.assertEqual(split([2, 1]), [1, 0, 1])
        self.assertEqual(split([6, 5, 3]), [1, 0, 1, 1])
        self.assertEqual(split(graph_of(5, ring_of(1, 3, 4))), [1, 0, 0, 0, 1, 1])

    def test_least_node_may_need_a_one(self):
        self.assertEqual(split(graph_of(4, STAR)), [1, 1, 0, 0, 0])
        self.assertEqual(split(graph_of(4, [(3, 0), (3, 1), (3, 2)])), [1, 0, 0, 0, 1])
        self.assertEqual(split(graph_of(5, path_of(3, 0, 1, 4))), [1, 1, 1, 0, 0, 0])

    def test_bare_path_is_not_forbidden(self):
        self.assertEqual(split(graph_of(4, path_of(1, 3, 0, 2))), [1, 1, 0, 0, 1])

    def test_bare_pair_of_pairs(self):
        self.assertEqual(split(graph_of(4, [(0, 3), (1, 2)])), [0, 0, 3, 1, 2])
        self.assertEqual(split(graph_of(6, ring_of(0, 2, 4) + ring_of(1, 3, 5))), [0, 0, 2, 1, 3])

    def test_ring_of_five_alone(self):
        self.assertEqual(split(graph_of(5, ring_of(0, 1, 2, 3, 4))), [0, 0, 1, 2, 3, 4])
        self.assertEqual(split(graph_of(5, ring_of(0, 2, 4, 1, 3))), [0, 0, 2, 4, 1, 3])
        hub = [(0, node) for node in range(1, 6)]
        self.assertEqual(split(graph_of(6, ring_of(1, 2, 3, 4, 5) + hub)), [0, 1, 2, 3, 4, 5])

    def test_ring_of_five_behind_anything_of_four(self):
        ring = ring_of(0, 1, 2, 3, 4)
        self.assertEqual(split(graph_of(7, ring + [(5, 6)])), [0, 0, 1, 5, 6])
        self.assertEqual(split(graph_of(8, ring + ring_of(4, 5, 6, 7))), [0, 0, 1, 5, 6])

    def test_first_of_rings_and_pairs(self):
        self.assertEqual(split(graph_of(6, ring_of(0, 5, 1, 4) + [(2, 3)])), [0, 0, 4, 1, 5])
        self.assertEqual(split(graph_of(6, ring_of(2, 3, 4, 5) + [(0, 1)])), [0, 0, 1, 2, 3])

    def test_ring_of_three_and_ring_with_a_chord_are_not_forbidden(self):
        self.assertEqual(split(graph_of(4, ring_of(0, 1, 2, 3) + [(0, 2)])), [1, 1, 0, 1, 0])
        self.assertEqual(split(graph_of(5, ring_of(0, 1, 2) + [(0, 3), (1, 4)])), [1, 1, 1, 0, 0, 0])


class Steps(unittest.TestCase):
    def test_examples(self):
        self.assertEqual(steps([10, 5, 10, 5]), [0, 0, 1, 2, 3])
        self.assertEqual(steps([2, 5, 10, 4]), [0, 0, 1, 2, 3])

    def test_one_node_and_eight(self):
        self.assertEqual(steps([0]), [1, 0])
        self.assertEqual(steps([0] * 8), [1, 0, 1, 2, 3, 4, 5, 6, 7])
        self.assertEqual(steps(EIGHT_JOINED), [1, 0, 1, 2, 3, 4, 5, 6, 7])
        self.assertEqual(steps(graph_of(8, path_of(0, 1, 2, 3, 4, 5, 6, 7))), [0, 0, 1, 2, 3])

    def test_order_is_the_first(self):
        self.assertEqual(steps(graph_of(3, path_of(0, 1, 2))), [1, 0, 2, 1])
        self.assertEqual(steps(graph_of(3, [(0, 1)])), [1, 0, 1, 2])
        self.assertEqual(steps(graph_of(3, [(1, 2)])), [1, 1, 2, 0])
        self.assertEqual(steps(graph_of(4, STAR)), [1, 1, 2, 3, 0])

    def test_order_is_not_told_by_counts_of_neighbours(self):
        # 3 has the fewest neighbours, yet it needn't stand at the beginning.
        self.assertEqual(steps(graph_of(4, ring_of(0, 1, 2) + [(0, 3)])), [1, 1, 2, 3, 0])
        # As many neighbours each, and still no such order.
        self.assertEqual(steps(graph_of(4, [(0, 1), (2, 3)])), [0, 0, 1, 2, 3])
        self.assertEqual(steps(graph_of(6, ring_of(0, 1, 2) + ring_of(3, 4, 5))), [0, 0, 1, 3, 4])

    def test_graph_that_does_not_hang_together(self):
        self.assertEqual(steps(graph_of(8, [(0, 7)])), [1, 0, 7, 1, 2, 3, 4, 5, 6])
        self.assertEqual(steps(graph_of(6, ring_of(1, 3, 5))), [1, 1, 3, 5, 0, 2, 4])

    def test_each_of_what_is_forbidden(self):
        self.assertEqual(steps(graph_of(4, [(0, 3), (1, 2)])), [0, 0, 3, 1, 2])
        self.assertEqual(steps(graph_of(4, path_of(3, 0, 1, 2))), [0, 2, 1, 0, 3])
        self.assertEqual(steps(graph_of(4, ring_of(0, 3, 1, 2))), [0, 0, 2, 1, 3])

    def test_ring_of_five_is_told_by_four(self):
        self.assertEqual(steps(graph_of(5, ring_of(0, 1, 2, 3, 4))), [0, 0, 1, 2, 3])
        self.assertEqual(steps(graph_of(5, ring_of(0, 4, 1, 3, 2))), [0, 0, 2, 3, 1])

    def test_first_of_all_that_is_forbidden(self):
        self.assertEqual(steps(graph_of(8, ring_of(1, 2, 3, 4) + path_of(0, 5, 6, 7))), [0, 0, 5, 1, 2])
        self.assertEqual(steps(graph_of(5, path_of(4, 3, 0, 1, 2))), [0, 1, 0, 3, 4])


class Nopath(unittest.TestCase):
    def test_examples(self):
        self.assertEqual(nopath([10, 5, 10, 5]), [1])
        self.assertEqual(nopath([2, 5, 10, 4]), [0, 0, 1, 2, 3])

    def test_one_node_and_eight(self):
        self.assertEqual(nopath([0]), [1])
        self.assertEqual(nopath([0] * 8), [1])
        self.assertEqual(nopath(EIGHT_JOINED), [1])
        self.assertEqual(nopath(graph_of(8, path_of(4, 6, 5, 7))), [0, 4, 6, 5, 7])

    def test_nothing_else_is_forbidden(self):
        self.assertEqual(nopath(graph_of(4, [(0, 3), (1, 2)])), [1])
        self.assertEqual(nopath(graph_of(4, ring_of(0, 1, 2, 3) + [(0, 2)])), [1])
        self.assertEqual(nopath(graph_of(5, [(0, 2), (0, 3), (0, 4), (1, 2), (1, 3), (1, 4)])), [1])
        self.assertEqual(nopath(graph_of(7, ring_of(0, 1, 2) + ring_of(3, 5, 4, 6))), [1])

    def test_path_with_a_chord_is_not_bare(self):
        self.assertEqual(nopath(graph_of(4, path_of(0, 1, 2, 3) + [(0, 2)])), [1])
        self.assertEqual(nopath(graph_of(5, path_of(0, 1, 2, 3) + [(0, 2), (3, 4)])), [0, 0, 2, 3, 4])

    def test_long_rings_hold_a_path(self):
        self.assertEqual(nopath(graph_of(5, ring_of(0, 2, 4, 1, 3))), [0, 0, 2, 4, 1])
        self.assertEqual(nopath(graph_of(6, ring_of(0, 1, 2, 3, 4, 5))), [0, 0, 1, 2, 3])

    def test_path_is_the_first(self):
        self.assertEqual(nopath(graph_of(4, path_of(3, 0, 1, 2))), [0, 2, 1, 0, 3])
        self.assertEqual(nopath(graph_of(5, path_of(4, 3, 0, 1, 2))), [0, 1, 0, 3, 4])
        self.assertEqual(nopath(graph_of(8, path_of(1, 2, 3, 4) + path_of(0, 7, 6, 5))), [0, 0, 7, 6, 5])


if __name__ == "__main__":
    unittest.main()
