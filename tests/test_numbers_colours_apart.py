"""numbers, colours and apart on chosen graphs: the document's examples and its edges."""

import unittest

from goodkinds.graphs import apart, colours, numbers
from making import all_pairs, graph_of, path_of, ring_of

NET = graph_of(6, ring_of(0, 1, 2) + [(0, 3), (1, 4), (2, 5)])
EIGHT_JOINED = graph_of(8, all_pairs(8))
RING_OF_FIVE = graph_of(5, ring_of(0, 1, 2, 3, 4))
RING_OF_EIGHT = graph_of(8, ring_of(0, 1, 2, 3, 4, 5, 6, 7))
WHEEL = graph_of(6, ring_of(0, 1, 2, 3, 4) + [(5, node) for node in range(5)])
# Two pairs of rings of three that share a side, hung together: four colours, and still no four nodes all joined.
SPINDLE = graph_of(7, ring_of(0, 1, 3, 2) + [(1, 2)] + ring_of(0, 4, 6, 5) + [(4, 5), (3, 6)])
# A ring of five and one of three, each node of the one joined with each of the other.
FIVE_AND_THREE = graph_of(
    8, ring_of(0, 1, 2, 3, 4) + ring_of(5, 6, 7) + [(one, other) for one in range(5) for other in (5, 6, 7)]
)
# Even nodes on the one side, odd ones on the other, each joined with all over there but the one it's beside.
CROWN = graph_of(8, [(one, other) for one in (0, 2, 4, 6) for other in (1, 3, 5, 7) if other != one + 1])


class Numbers(unittest.TestCase):
    def test_examples(self):
        self.assertEqual(numbers([10, 5, 10, 5]), [0, 2, 2, 2])
        self.assertEqual(numbers([2, 5, 10, 4]), [0, 2, 2, 2])

    def test_one_node_and_eight(self):
        self.assertEqual(numbers([0]), [0, 1, 1, 1])
        self.assertEqual(numbers([0] * 8), [0, 1, 8, 1])
        self.assertEqual(numbers(EIGHT_JOINED), [0, 8, 1, 8])
        self.assertEqual(numbers(RING_OF_EIGHT), [0, 2, 4, 2])
        self.assertEqual(numbers(CROWN), [0, 2, 4, 2])

    def test_graph_that_does_not_hang_together(self):
        self.assertEqual(numbers(graph_of(6, ring_of(0, 2, 4) + [(1, 3)])), [0, 3, 3, 3])
        self.assertEqual(numbers(graph_of(8, [(6, 7)])), [0, 2, 7, 2])
        self.assertEqual(numbers(NET), [0, 3, 3, 3])

    def test_more_colours_than_nodes_all_joined(self):
        self.assertEqual(numbers(RING_OF_FIVE), [0, 2, 2, 3])
        self.assertEqual(numbers(graph_of(7, ring_of(0, 1, 2, 3, 4, 5, 6))), [0, 2, 3, 3])
        self.assertEqual(numbers(WHEEL), [0, 3, 2, 4])
        self.assertEqual(numbers(SPINDLE), [0, 3, 2, 4])
        self.assertEqual(numbers(FIVE_AND_THREE), [0, 5, 2, 6])


class Colours(unittest.TestCase):
    def test_one_node_and_eight(self):
        self.assertEqual(colours([0]), [0, 0])
        self.assertEqual(colours([0] * 8), [0, 0, 0, 0, 0, 0, 0, 0, 0])
        self.assertEqual(colours(EIGHT_JOINED), [0, 0, 1, 2, 3, 4, 5, 6, 7])
        self.assertEqual(colours(RING_OF_EIGHT), [0, 0, 1, 0, 1, 0, 1, 0, 1])

    def test_ring_and_path_of_four(self):
        self.assertEqual(colours([10, 5, 10, 5]), [0, 0, 1, 0, 1])
        self.assertEqual(colours([2, 5, 10, 4]), [0, 0, 1, 0, 1])

    def test_not_by_greed(self):
        # By greed, the least colour that's free for each node in turn, these would take three and four.
        self.assertEqual(colours(graph_of(4, path_of(0, 2, 3, 1))), [0, 0, 1, 1, 0])
        self.assertEqual(colours(CROWN), [0, 0, 1, 0, 1, 0, 1, 0, 1])
        # Three are needed for the ring of five; by greed node 5 would have 1, and 6 a fourth.
        ring_with_ends = graph_of(7, ring_of(0, 2, 4, 6, 5) + [(1, 6), (3, 4)])
        self.assertEqual(colours(ring_with_ends), [0, 0, 0, 1, 0, 2, 2, 1])

    def test_row_is_the_first(self):
        self.assertEqual(colours(RING_OF_FIVE), [0, 0, 1, 0, 1, 2])
        self.assertEqual(colours(graph_of(5, ring_of(0, 2, 4, 1, 3))), [0, 0, 0, 1, 1, 2])
        self.assertEqual(colours(graph_of(4, ring_of(1, 2, 3))), [0, 0, 0, 1, 2])
        self.assertEqual(colours(WHEEL), [0, 0, 1, 0, 1, 2, 3])

    def test_graph_that_does_not_hang_together(self):
        self.assertEqual(colours(graph_of(4, [(0, 3), (1, 2)])), [0, 0, 0, 1, 1])
        self.assertEqual(colours(graph_of(6, [(0, 5)] + ring_of(1, 3, 4))), [0, 0, 0, 0, 1, 2, 1])
        self.assertEqual(colours(graph_of(8, path_of(0, 2, 3, 1) + path_of(4, 6, 7, 5))), [0, 0, 1, 1, 0, 0, 1, 1, 0])

    def test_as_few_as_can_be(self):
        self.assertEqual(max(colours(SPINDLE)[1:]), 3)
        self.assertEqual(max(colours(FIVE_AND_THREE)[1:]), 5)
        self.assertEqual(max(colours(NET)[1:]), 2)


class Apart(unittest.TestCase):
    def test_one_node_and_eight(self):
        self.assertEqual(apart([0]), [0, 1])
        self.assertEqual(apart([0] * 8), [0, 255])
        self.assertEqual(apart(EIGHT_JOINED), [0, 1])
        self.assertEqual(apart(RING_OF_EIGHT), [0, 85])

    def test_ring_and_path_of_four(self):
        self.assertEqual(apart([10, 5, 10, 5]), [0, 5])
        self.assertEqual(apart([2, 5, 10, 4]), [0, 5])

    def test_the_most_nodes_ahead_of_the_least_number(self):
        self.assertEqual(apart(graph_of(4, [(0, 1), (0, 2), (0, 3)])), [0, 14])
        self.assertEqual(apart(graph_of(5, ring_of(0, 1, 2, 3) + [(0, 2), (1, 3)])), [0, 17])

    def test_of_the_most_the_least_number(self):
        # 0 and 3 would be the lesser row, but 1 and 2 are the lesser number.
        self.assertEqual(apart(graph_of(4, ring_of(0, 1, 3, 2))), [0, 6])
        self.assertEqual(apart(NET), [0, 28])
        self.assertEqual(apart(RING_OF_FIVE), [0, 5])

    def test_graph_that_does_not_hang_together(self):
        self.assertEqual(apart(graph_of(6, ring_of(0, 2, 4) + [(1, 3)])), [0, 35])
        self.assertEqual(apart(graph_of(8, [(6, 7)])), [0, 127])


if __name__ == "__main__":
    unittest.main()
