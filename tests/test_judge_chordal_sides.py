"""judge, chordal and sides on chosen graphs: the document's examples and its edges."""

import unittest

from goodkinds.graphs import chordal, judge, sides
from making import all_pairs, graph_of, path_of, ring_of


class Judge(unittest.TestCase):
    def test_counts_joined_pairs(self):
        self.assertEqual(judge([10, 5, 10, 5]), [0, 4])
        self.assertEqual(judge([2, 5, 10, 4]), [0, 3])
        self.assertEqual(judge([2, 1]), [0, 1])
        self.assertEqual(judge(graph_of(6, [(0, 5), (2, 3)])), [0, 2])

    def test_fewest_and_most(self):
        self.assertEqual(judge([0]), [0, 0])
        self.assertEqual(judge([0] * 8), [0, 0])
        self.assertEqual(judge(graph_of(8, all_pairs(8))), [0, 28])
        self.assertEqual(judge(graph_of(8, [(6, 7)])), [0, 1])


class Chordal(unittest.TestCase):
    def test_examples(self):
        self.assertEqual(chordal([10, 5, 10, 5]), [0, 0, 1, 2, 3])
        self.assertEqual(chordal([2, 5, 10, 4]), [1, 0, 1, 2, 3])

    def test_one_node_and_eight(self):
        self.assertEqual(chordal([0]), [1, 0])
        self.assertEqual(chordal([0] * 8), [1, 0, 1, 2, 3, 4, 5, 6, 7])
        self.assertEqual(chordal(graph_of(8, all_pairs(8))), [1, 0, 1, 2, 3, 4, 5, 6, 7])

    def test_ring_of_three_is_not_chordless(self):
        self.assertEqual(chordal([6, 5, 3]), [1, 0, 1, 2])

    def test_ring_with_a_chord_is_not_chordless(self):
        self.assertEqual(chordal(graph_of(4, ring_of(0, 1, 2, 3) + [(0, 2)])), [1, 1, 0, 2, 3])
        self.assertEqual(chordal(graph_of(5, ring_of(0, 1, 2, 3, 4) + [(0, 2), (0, 3)])), [1, 1, 2, 0, 3, 4])

    def test_chord_leaves_a_lesser_ring(self):
        self.assertEqual(chordal(graph_of(5, ring_of(0, 1, 2, 3, 4) + [(0, 2)])), [0, 0, 2, 3, 4])
        self.assertEqual(chordal(graph_of(8, ring_of(0, 1, 2, 3, 4, 5, 6, 7) + [(2, 6)])), [0, 0, 1, 2, 6, 7])

    def test_order_is_the_first(self):
        star = graph_of(4, [(0, 1), (0, 2), (0, 3)])
        self.assertEqual(chordal(star), [1, 1, 2, 0, 3])
        self.assertEqual(chordal(graph_of(4, path_of(1, 0, 3, 2))), [1, 1, 0, 2, 3])
        self.assertEqual(chordal(graph_of(5, path_of(3, 0, 1, 2, 4))), [1, 3, 0, 1, 2, 4])

    def test_order_heeds_those_behind_not_those_ahead(self):
        # With those ahead in their stead 0 could stand at the beginning.
        self.assertEqual(chordal(graph_of(3, [(0, 1), (0, 2)])), [1, 1, 0, 2])

    def test_graph_that_does_not_hang_together(self):
        self.assertEqual(chordal(graph_of(5, [(0, 4), (0, 3), (1, 2)])), [1, 1, 2, 3, 0, 4])
        self.assertEqual(chordal(graph_of(7, ring_of(0, 1, 2) + ring_of(3, 5, 4, 6))), [0, 3, 5, 4, 6])

    def test_long_rings(self):
        self.assertEqual(chordal(graph_of(5, ring_of(0, 2, 4, 1, 3))), [0, 0, 2, 4, 1, 3])
        self.assertEqual(chordal(graph_of(6, ring_of(5, 1, 3, 0, 2, 4))), [0, 0, 2, 4, 5, 1, 3])
        self.assertEqual(chordal(graph_of(7, ring_of(0, 1, 2, 3, 4, 5, 6))), [0, 0, 1, 2, 3, 4, 5, 6])
        self.assertEqual(chordal(graph_of(8, ring_of(0, 7, 1, 6, 2, 5, 3, 4))), [0, 0, 4, 3, 5, 2, 6, 1, 7])

    def test_first_ring_is_the_shortest(self):
        shared_node = graph_of(8, ring_of(0, 1, 2, 3, 4) + ring_of(4, 5, 6, 7))
        self.assertEqual(chordal(shared_node), [0, 4, 5, 6, 7])

    def test_of_the_shortest_the_lesser_node(self):
        two_and_three = graph_of(5, [(0, 2), (0, 3), (0, 4), (1, 2), (1, 3), (1, 4)])
        self.assertEqual(chordal(two_and_three), [0, 0, 2, 1, 3])
        two_rings = graph_of(8, ring_of(0, 5, 6, 7) + ring_of(1, 2, 3, 4))
        self.assertEqual(chordal(two_rings), [0, 0, 5, 6, 7])


class Sides(unittest.TestCase):
    def test_examples(self):
        self.assertEqual(sides([10, 5, 10, 5]), [1, 0, 1, 0, 1])
        self.assertEqual(sides([2, 5, 10, 4]), [1, 0, 1, 0, 1])

    def test_one_node_and_eight(self):
        self.assertEqual(sides([0]), [1, 0])
        self.assertEqual(sides([0] * 8), [1, 0, 0, 0, 0, 0, 0, 0, 0])
        self.assertEqual(sides(graph_of(8, ring_of(0, 1, 2, 3, 4, 5, 6, 7))), [1, 0, 1, 0, 1, 0, 1, 0, 1])
        self.assertEqual(sides(graph_of(8, all_pairs(8))), [0, 0, 1, 2])

    def test_each_part_begins_with_nought(self):
        self.assertEqual(sides(graph_of(4, [(0, 3), (1, 2)])), [1, 0, 0, 1, 1])
        self.assertEqual(sides(graph_of(6, path_of(4, 1, 5) + [(0, 3)])), [1, 0, 0, 0, 1, 1, 1])
        self.assertEqual(sides(graph_of(5, path_of(0, 4, 2, 3, 1))), [1, 0, 0, 0, 1, 1])
        self.assertEqual(sides(graph_of(4, path_of(0, 2, 3, 1))), [1, 0, 1, 1, 0])

    def test_ring_of_three_is_odd(self):
        self.assertEqual(sides([6, 5, 3]), [0, 0, 1, 2])

    def test_even_rings_do_not_count(self):
        self.assertEqual(sides(graph_of(7, ring_of(0, 1, 2, 3) + ring_of(4, 5, 6))), [0, 4, 5, 6])
        self.assertEqual(sides(graph_of(8, ring_of(0, 1, 2, 3) + ring_of(3, 4, 5, 6, 7))), [0, 3, 4, 5, 6, 7])

    def test_first_ring_is_the_shortest(self):
        self.assertEqual(sides(graph_of(8, ring_of(0, 1, 2, 3, 4) + ring_of(5, 6, 7))), [0, 5, 6, 7])
        self.assertEqual(sides(graph_of(7, ring_of(0, 1, 2, 3, 4, 5, 6) + [(2, 6)])), [0, 2, 3, 4, 5, 6])

    def test_of_the_shortest_the_lesser_node(self):
        self.assertEqual(sides(graph_of(5, ring_of(1, 2, 3) + ring_of(0, 3, 4))), [0, 0, 3, 4])
        self.assertEqual(sides(graph_of(4, ring_of(0, 1, 3) + ring_of(0, 2, 3))), [0, 0, 1, 3])
        self.assertEqual(sides(graph_of(5, ring_of(0, 2, 4, 1, 3))), [0, 0, 2, 4, 1, 3])

    def test_ring_comes_by_no_node_twice(self):
        self.assertEqual(sides(graph_of(4, [(0, 1)] + ring_of(1, 2, 3))), [0, 1, 2, 3])
        self.assertEqual(sides(graph_of(8, path_of(0, 1, 2, 3) + ring_of(3, 4, 5, 6, 7))), [0, 3, 4, 5, 6, 7])

    def test_ring_of_seven(self):
        self.assertEqual(sides(graph_of(8, ring_of(0, 7, 1, 6, 2, 5, 3))), [0, 0, 3, 5, 2, 6, 1, 7])


if __name__ == "__main__":
    unittest.main()
