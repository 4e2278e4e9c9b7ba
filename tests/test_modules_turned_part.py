"""modules, turned and part on chosen graphs: the document's examples, its edges, and sets that are refused."""

import unittest

from goodkinds.graphs import modules, part, turned
from making import all_graphs, all_pairs, good_graphs, graph_of, path_of, ring_of

RING = [10, 5, 10, 5]
PATH = [2, 5, 10, 4]
LARGEST = 4294967295
EIGHT_JOINED = graph_of(8, all_pairs(8))
RING_OF_EIGHT = graph_of(8, ring_of(0, 1, 2, 3, 4, 5, 6, 7))


class Modules(unittest.TestCase):
    def test_examples(self):
        self.assertEqual(modules(RING), [0, 3, 5, 10, 15, 0, 0, 1])
        self.assertEqual(modules(PATH), [0, 1, 15, 2])

    def test_one_node_is_not_told(self):
        self.assertEqual(modules([0]), [0, 0])

    def test_the_whole_is_not_left_out(self):
        self.assertEqual(modules([0, 0]), [0, 1, 3, 0])
        self.assertEqual(modules([2, 1]), [0, 1, 3, 1])
        self.assertEqual(modules(RING_OF_EIGHT), [0, 1, 255, 2])

    def test_those_that_overlap_are_not_told(self):
        self.assertEqual(modules([0, 0, 0]), [0, 1, 7, 0])
        self.assertEqual(modules([6, 5, 3]), [0, 1, 7, 1])
        self.assertEqual(modules([0] * 8), [0, 1, 255, 0])
        self.assertEqual(modules(EIGHT_JOINED), [0, 1, 255, 1])
        # 1 and 2, 1 and 3, 2 and 3 are modules too.
        self.assertEqual(modules(graph_of(4, [(0, 1), (0, 2), (0, 3)])), [0, 2, 14, 15, 0, 1])

    def test_smaller_first_then_the_lesser_number(self):
        self.assertEqual(modules(graph_of(5, ring_of(0, 1, 2) + [(3, 4)])), [0, 3, 24, 7, 31, 1, 1, 0])
        self.assertEqual(modules(graph_of(4, [(0, 3), (1, 2)])), [0, 3, 6, 9, 15, 1, 1, 0])
        two_rings = graph_of(8, ring_of(0, 1, 2, 3) + ring_of(4, 5, 6, 7))
        self.assertEqual(modules(two_rings), [0, 7, 5, 10, 80, 160, 15, 240, 255, 0, 0, 0, 0, 1, 1, 0])

    def test_kinds(self):
        self.assertEqual(modules(graph_of(3, path_of(0, 1, 2))), [0, 2, 5, 7, 0, 1])
        self.assertEqual(modules(graph_of(3, [(0, 2)])), [0, 2, 5, 7, 1, 0])
        self.assertEqual(modules(graph_of(5, ring_of(0, 1, 2, 3, 4))), [0, 1, 31, 2])
        self.assertEqual(modules(graph_of(5, path_of(0, 1, 2, 3, 4))), [0, 1, 31, 2])
        self.assertEqual(modules(graph_of(5, path_of(0, 1, 2, 3))), [0, 2, 15, 31, 2, 0])

    def test_kind_2_of_a_whole_that_holds_another(self):
        self.assertEqual(modules(graph_of(5, path_of(0, 1, 2, 3) + [(4, 1)])), [0, 2, 17, 31, 0, 2])
        self.assertEqual(modules(graph_of(5, path_of(0, 1, 2, 3) + [(4, 1), (4, 0)])), [0, 2, 17, 31, 1, 2])

    def test_kind_2_of_four_nodes_is_a_bare_path(self):
        for graph in all_graphs(4):
            told = modules(graph)
            counts = sorted(bin(number).count("1") for number in graph)
            is_path = counts == [1, 1, 2, 2]
            self.assertEqual(told[-1] == 2, is_path, graph)


class Turned(unittest.TestCase):
    def test_ring_and_path_of_four(self):
        self.assertEqual(turned(RING), [0, 4, 8, 1, 2])
        self.assertEqual(turned(PATH), [0, 12, 8, 1, 3])

    def test_one_node_and_eight(self):
        self.assertEqual(turned([0]), [0, 0])
        self.assertEqual(turned([0] * 8), [0] + EIGHT_JOINED)
        self.assertEqual(turned(EIGHT_JOINED), [0] + [0] * 8)

    def test_twice(self):
        for graph in list(all_graphs(4)) + list(good_graphs(7, 40)) + list(good_graphs(8, 40)):
            once = turned(graph)
            self.assertEqual(once[0], 0)
            self.assertNotEqual(once[1:], graph)
            self.assertEqual(turned(once[1:]), [0] + graph)


class Part(unittest.TestCase):
    def test_one_node(self):
        for node in range(4):
            self.assertEqual(part(1 << node, RING), [0, 0])
        self.assertEqual(part(1, [0]), [0, 0])
        self.assertEqual(part(128, EIGHT_JOINED), [0, 0])

    def test_some_nodes_are_numbered_in_their_order(self):
        self.assertEqual(part(5, RING), [0, 0, 0])
        self.assertEqual(part(12, RING), [0, 2, 1])
        self.assertEqual(part(9, RING), [0, 2, 1])
        self.assertEqual(part(13, RING), [0, 4, 4, 3])
        self.assertEqual(part(11, RING), [0, 6, 1, 1])
        self.assertEqual(part(11, PATH), [0, 2, 1, 0])
        self.assertEqual(part(14, PATH), [0, 2, 5, 2])

    def test_graph_that_does_not_hang_together(self):
        self.assertEqual(part(54, graph_of(6, [(1, 5), (2, 4), (0, 3)])), [0, 8, 4, 2, 1])

    def test_all_nodes(self):
        for graph in ([0], RING, PATH, [0] * 8, EIGHT_JOINED, RING_OF_EIGHT):
            self.assertEqual(part((1 << len(graph)) - 1, graph), [0] + graph)

    def test_most_of_eight(self):
        self.assertEqual(part(254, RING_OF_EIGHT), [0] + graph_of(7, path_of(0, 1, 2, 3, 4, 5, 6)))
        self.assertEqual(part(239, RING_OF_EIGHT), [0] + graph_of(7, path_of(4, 5, 6, 0, 1, 2, 3)))

    def test_empty_set_is_refused(self):
        for graph in ([0], RING, EIGHT_JOINED):
            self.assertEqual(part(0, graph), [-2])

    def test_set_with_a_node_that_there_is_not_is_refused(self):
        for graph in ([0], [2, 1], RING, PATH, [0] * 8, EIGHT_JOINED):
            for bit in range(len(graph), 32):
                self.assertEqual(part(1 << bit, graph), [-2])
                self.assertEqual(part((1 << bit) + 1, graph), [-2])
            self.assertEqual(part(LARGEST, graph), [-2])
            self.assertEqual(part(1 << len(graph), graph), [-2])

    def test_no_graph_is_told_ahead_of_a_wrong_set(self):
        for graph in ([], [1], [2, 0], [4, 0], [0] * 9, [0] * 12, [LARGEST] * 8):
            for nodes in (0, 1, 3, 256, 4096, LARGEST):
                self.assertEqual(part(nodes, graph), [-1])


if __name__ == "__main__":
    unittest.main()
