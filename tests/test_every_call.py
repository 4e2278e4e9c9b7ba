"""What holds of every call: what is no graph is refused, nothing handed in is changed, nothing is kept."""

import unittest

from goodkinds.graphs import (
    apart, chordal, cliques, colours, directed, interval, judge, modules, nopath, numbers, part, sides, split, steps,
    turned,
)
from making import all_pairs, graph_of, ring_of


def part_of_node_0(graph):
    return part(1, graph)


def part_of_no_node(graph):
    return part(0, graph)


CALLS = (
    judge, chordal, sides, split, steps, nopath, interval, directed, cliques, numbers, colours, apart, modules, turned,
    part_of_node_0, part_of_no_node,
)
LARGEST = 4294967295


class Unchangeable(list):
    """A list that doesn't let itself be changed, not for a while either."""

    def refuse(self, *args, **kwargs):
        raise AssertionError("what was handed in is changed")

    __setitem__ = __delitem__ = __iadd__ = __imul__ = refuse
    append = clear = extend = insert = pop = remove = reverse = sort = refuse


class NoGraph(unittest.TestCase):
    def refuse(self, graph):
        for call in CALLS:
            with self.subTest(call=call.__name__, graph=graph):
                self.assertEqual(call(list(graph)), [-1])

    def test_no_numbers(self):
        self.refuse([])

    def test_too_many_numbers(self):
        for size in range(9, 13):
            self.refuse([0] * size)
            self.refuse(graph_of(size, [(0, 1)]))
            self.refuse([LARGEST] * size)

    def test_joined_with_itself(self):
        for size in range(1, 9):
            for node in range(size):
                self.refuse(graph_of(size, [(node, node)]))

    def test_joined_one_way_only(self):
        for size in range(2, 9):
            for node in range(size):
                for other in range(size):
                    if node != other:
                        graph = graph_of(size, all_pairs(size))
                        graph[node] -= 1 << other
                        self.refuse(graph)
        self.refuse([2, 0])
        self.refuse([0, 1])

    def test_bits_from_n_on(self):
        for size in range(1, 9):
            for node in range(size):
                for bit in range(size, 32):
                    graph = [0] * size
                    graph[node] = 1 << bit
                    self.refuse(graph)

    def test_largest_numbers(self):
        for size in range(1, 9):
            self.refuse([LARGEST] * size)
            self.refuse([0] * (size - 1) + [LARGEST])
            self.refuse([LARGEST] + [0] * (size - 1))


class HandedIn(unittest.TestCase):
    GRAPHS = (
        [0], [1], [], [0] * 12, [LARGEST] * 3, [6, 5, 3], [10, 5, 10, 5], [2, 5, 10, 4],
        graph_of(8, ring_of(0, 1, 2, 3, 4, 5, 6, 7)), graph_of(8, all_pairs(8)),
    )

    def test_stays_as_it_was(self):
        for call in CALLS:
            for graph in self.GRAPHS:
                given = list(graph)
                answer = call(given)
                self.assertEqual(given, graph)
                self.assertIsNot(answer, given)
                self.assertEqual(call(Unchangeable(graph)), answer)

    def test_nothing_is_kept(self):
        for call in CALLS:
            for graph in self.GRAPHS:
                answer = call(list(graph))
                kept = list(answer)
                answer.append(99)
                answer[0] = 98
                for other in self.GRAPHS:
                    call(list(other))
                self.assertEqual(call(list(graph)), kept)

    def test_answers_are_lists_of_whole_numbers(self):
        for call in CALLS:
            for graph in self.GRAPHS:
                answer = call(list(graph))
                self.assertIs(type(answer), list)
                self.assertEqual({type(number) for number in answer}, {int})


if __name__ == "__main__":
    unittest.main()
