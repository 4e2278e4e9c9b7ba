"""Each answer held against a plain search that is written from the document's words."""

import unittest
from itertools import combinations, permutations, product

from goodkinds.graphs import (
    apart, chordal, cliques, colours, directed, interval, judge, modules, nopath, numbers, part, sides, split, steps,
    turned,
)
from making import all_graphs, good_graphs, some_graphs


def matrix_of(graph):
    return [[number >> other & 1 == 1 for other in range(len(graph))] for number in graph]


def is_ring(joined, row):
    return all(joined[row[place - 1]][row[place]] for place in range(len(row)))


def is_chordless(joined, row):
    """A ring of as many joined pairs as it has nodes: no others of them are joined."""
    return is_ring(joined, row) and sum(joined[one][other] for one, other in combinations(row, 2)) == len(row)


def has_just(joined, row, pairs):
    """Of the row's places just these pairs are joined."""
    places = combinations(range(len(row)), 2)
    return all(joined[row[one]][row[other]] == ((one, other) in pairs) for one, other in places)


def is_bare_path(joined, row):
    return len(row) == 4 and has_just(joined, row, ((0, 1), (1, 2), (2, 3)))


def is_bare_pairs(joined, row):
    return len(row) == 4 and has_just(joined, row, ((0, 1), (2, 3)))


def first_row(size, lengths, fits):
    """permutations of a rising row come with the lesser node first where two first differ."""
    for length in lengths:
        for row in permutations(range(size), length):
            if fits(row):
                return list(row)
    return None


def proves_order(joined, order):
    for place, node in enumerate(order):
        behind = [other for other in order[place + 1:] if joined[node][other]]
        if not all(joined[one][other] for one, other in combinations(behind, 2)):
            return False
    return True


def least_of_part(joined, node):
    part = [node]
    for member in part:
        part.extend(other for other in range(len(joined)) if joined[member][other] and other not in part)
    return min(part)


def proves_sides(joined, marks):
    size = len(joined)
    differ = all(marks[one] != marks[other] for one, other in combinations(range(size), 2) if joined[one][other])
    return differ and all(marks[least_of_part(joined, node)] == 0 for node in range(size))


def judge_by_search(graph):
    joined = matrix_of(graph)
    return [0, sum(joined[one][other] for one, other in combinations(range(len(graph)), 2))]


def chordal_by_search(graph):
    joined = matrix_of(graph)
    size = len(graph)
    ring = first_row(size, range(4, size + 1), lambda row: is_chordless(joined, row))
    order = first_row(size, [size], lambda row: proves_order(joined, row))
    assert (ring is None) != (order is None), "of each kind either the one or the other is there"
    return [1] + order if ring is None else [0] + ring


def sides_by_search(graph):
    joined = matrix_of(graph)
    size = len(graph)
    ring = first_row(size, range(3, size + 1, 2), lambda row: is_ring(joined, row))
    proofs = [list(marks) for marks in product((0, 1), repeat=size) if proves_sides(joined, marks)]
    assert len(proofs) == (1 if ring is None else 0), "of each kind either the one or the other is there"
    return [1] + proofs[0] if ring is None else [0] + ring


def proves_marks(joined, marks):
    pairs = combinations(range(len(marks)), 2)
    return all(joined[one][other] == (marks[one] == 1) for one, other in pairs if marks[one] == marks[other])


def split_by_search(graph):
    joined = matrix_of(graph)
    size = len(graph)
    forbidden = first_row(size, (4, 5), lambda row: is_chordless(joined, row) or is_bare_pairs(joined, row))
    proofs = [list(marks) for marks in product((0, 1), repeat=size) if proves_marks(joined, marks)]
    assert (forbidden is None) != (proofs == []), "of each kind either the one or the other is there"
    return [1] + proofs[0] if forbidden is None else [0] + forbidden


def proves_steps(joined, order):
    for place, node in enumerate(order):
        if len({joined[node][other] for other in order[:place]}) > 1:
            return False
    return True


def steps_by_search(graph):
    joined = matrix_of(graph)
    size = len(graph)
    kinds = (is_chordless, is_bare_path, is_bare_pairs)
    forbidden = first_row(size, [4], lambda row: any(kind(joined, row) for kind in kinds))
    order = first_row(size, [size], lambda row: proves_steps(joined, row))
    assert (forbidden is None) != (order is None), "of each kind either the one or the other is there"
    return [1] + order if forbidden is None else [0] + forbidden


def nopath_by_search(graph):
    joined = matrix_of(graph)
    path = first_row(len(graph), [4], lambda row: is_bare_path(joined, row))
    return [1] if path is None else [0] + path


def sets_of(size):
    """All sets that aren't empty, the lesser number first."""
    for number in range(1, 2 ** size):
        yield number, {node for node in range(size) if number >> node & 1}


def is_clique(joined, nodes):
    return all(joined[one][other] for one, other in combinations(sorted(nodes), 2))


def greatest_cliques(joined):
    found = [(number, nodes) for number, nodes in sets_of(len(joined)) if is_clique(joined, nodes)]
    return [(number, nodes) for number, nodes in found if not any(nodes < other for same, other in found)]


def cliques_by_search(graph):
    return [0] + [number for number, nodes in greatest_cliques(matrix_of(graph))]


def has_way(joined, start, end, third):
    barred = [third] + [node for node in range(len(joined)) if joined[node][third]]
    if start in barred or end in barred:
        return False
    walked = [start]
    for member in walked:
        walked.extend(node for node in range(len(joined)) if joined[member][node] and node not in walked + barred)
    return end in walked


def are_apart(joined, row):
    for one, other, third in permutations(row):
        if joined[one][other] or not has_way(joined, one, other, third):
            return False
    return True


def stand_side_by_side(size, order):
    for node in range(size):
        places = [place for place, nodes in enumerate(order) if node in nodes]
        if places[-1] - places[0] + 1 != len(places):
            return False
    return True


def interval_proof(joined):
    size = len(joined)
    for order in permutations([nodes for number, nodes in greatest_cliques(joined)]):
        if stand_side_by_side(size, order):
            places = [[place for place, nodes in enumerate(order) if node in nodes] for node in range(size)]
            return [end for row in places for end in (row[0], row[-1])]
    return None


def proves_intervals(joined, told):
    """Two are joined just if some number is from the first to the second of both."""
    spans = [range(told[2 * node], told[2 * node + 1] + 1) for node in range(len(joined))]
    pairs = combinations(range(len(joined)), 2)
    return all(joined[one][other] == bool(set(spans[one]) & set(spans[other])) for one, other in pairs)


def interval_by_search(graph):
    joined = matrix_of(graph)
    size = len(graph)
    ring = first_row(size, range(4, size + 1), lambda row: is_chordless(joined, row))
    forbidden = ring or first_row(size, [3], lambda row: are_apart(joined, row))
    if forbidden is None or len(greatest_cliques(joined)) < 7:
        proof = interval_proof(joined)
        assert (forbidden is None) != (proof is None), "of each kind either the one or the other is there"
        assert proof is None or proves_intervals(joined, proof), "every answer is proved by what's told"
    return [1] + proof if forbidden is None else [0] + forbidden


def can_direct(joined, pairs, leads):
    """Whether the pairs can be directed one by one, so that with those directed already nothing is amiss."""
    if not pairs:
        return True
    for start, end in (pairs[0], pairs[0][::-1]):
        ahead = [one for one, other in leads if other == start]
        behind = [other for one, other in leads if one == end]
        amiss = [node for node in ahead if not joined[node][end] or (end, node) in leads]
        amiss += [node for node in behind if not joined[start][node] or (node, start) in leads]
        if not amiss and can_direct(joined, pairs[1:], leads + [(start, end)]):
            return True
    return False


def directed_by_search(graph):
    joined = matrix_of(graph)
    pairs = [(one, other) for one, other in combinations(range(len(graph)), 2) if joined[one][other]]
    return [0, 1 if can_direct(joined, pairs, []) else 0]


def first_colouring(joined):
    size = len(joined)
    pairs = [(one, other) for one, other in combinations(range(size), 2) if joined[one][other]]
    for count in range(1, size + 1):
        for row in product(range(count), repeat=size):
            if all(row[one] != row[other] for one, other in pairs):
                return list(row)


def colours_by_search(graph):
    return [0] + first_colouring(matrix_of(graph))


def is_apart(joined, nodes):
    return not any(joined[one][other] for one, other in combinations(sorted(nodes), 2))


def apart_by_search(graph):
    joined = matrix_of(graph)
    found = [(-len(nodes), number) for number, nodes in sets_of(len(graph)) if is_apart(joined, nodes)]
    return [0, min(found)[1]]


def numbers_by_search(graph):
    joined = matrix_of(graph)
    together = max(len(nodes) for number, nodes in sets_of(len(graph)) if is_clique(joined, nodes))
    asunder = max(len(nodes) for number, nodes in sets_of(len(graph)) if is_apart(joined, nodes))
    return [0, together, asunder, len(set(first_colouring(joined)))]


def is_module(joined, nodes):
    outside = [node for node in range(len(joined)) if node not in nodes]
    return all(len({joined[node][other] for other in nodes}) == 1 for node in outside)


def hangs_together(nodes, are_joined):
    walked = [min(nodes)]
    for member in walked:
        walked.extend(node for node in sorted(nodes) if node not in walked and are_joined(member, node))
    return set(walked) == nodes


def kind_of(joined, nodes):
    if not hangs_together(nodes, lambda one, other: joined[one][other]):
        return 0
    return 2 if hangs_together(nodes, lambda one, other: not joined[one][other]) else 1


def modules_by_search(graph):
    joined = matrix_of(graph)
    found = [(number, nodes) for number, nodes in sets_of(len(graph)) if is_module(joined, nodes)]
    strong = []
    for number, nodes in found:
        if len(nodes) > 1 and not any(nodes & other and nodes - other and other - nodes for same, other in found):
            strong.append((len(nodes), number, kind_of(joined, nodes)))
    strong.sort()
    return [0, len(strong)] + [row[1] for row in strong] + [row[2] for row in strong]


def turned_by_search(graph):
    joined = matrix_of(graph)
    size = range(len(graph))
    return [0] + [sum(2 ** other for other in size if other != node and not joined[node][other]) for node in size]


def part_by_search(number, graph):
    joined = matrix_of(graph)
    kept = [node for node in range(32) if number >> node & 1]
    if not kept or kept[-1] >= len(graph):
        return [-2]
    return [0] + [sum(2 ** place for place, other in enumerate(kept) if joined[node][other]) for node in kept]


SEARCHES = (
    (judge, judge_by_search), (chordal, chordal_by_search), (sides, sides_by_search),
    (split, split_by_search), (steps, steps_by_search), (nopath, nopath_by_search),
    (interval, interval_by_search), (directed, directed_by_search), (cliques, cliques_by_search),
    (numbers, numbers_by_search), (colours, colours_by_search), (apart, apart_by_search),
    (modules, modules_by_search), (turned, turned_by_search),
)


class AgainstSearch(unittest.TestCase):
    def hold(self, graphs):
        for graph in graphs:
            for call, search in SEARCHES:
                self.assertEqual(call(list(graph)), search(graph), (call.__name__, graph))

    def test_all_graphs_of_up_to_five_nodes(self):
        for size in range(1, 6):
            self.hold(all_graphs(size))

    def test_graphs_of_six_nodes(self):
        self.hold(some_graphs(6, 400))

    def test_graphs_of_seven_nodes(self):
        self.hold(some_graphs(7, 80))

    def test_graphs_of_eight_nodes(self):
        self.hold(some_graphs(8, 24))

    def test_graphs_of_good_kinds(self):
        self.hold(good_graphs(6, 200))
        self.hold(good_graphs(7, 80))
        self.hold(good_graphs(8, 16))


class PartAgainstSearch(unittest.TestCase):
    def hold(self, graphs):
        for graph in graphs:
            for number in range(2 ** (len(graph) + 1)):
                self.assertEqual(part(number, list(graph)), part_by_search(number, graph), (number, graph))

    def test_all_graphs_of_up_to_four_nodes(self):
        for size in range(1, 5):
            self.hold(all_graphs(size))

    def test_larger_graphs(self):
        for size in range(5, 9):
            self.hold(some_graphs(size, 8))
            self.hold(good_graphs(size, 8))


class NoGraphAmongSmall(unittest.TestCase):
    def test_all_rows_of_up_to_three_small_numbers(self):
        for size in (1, 2, 3):
            graphs = [tuple(graph) for graph in all_graphs(size)]
            for row in product(range(17), repeat=size):
                if row not in graphs:
                    for call, search in SEARCHES:
                        self.assertEqual(call(list(row)), [-1], (call.__name__, row))
                    for nodes in range(17):
                        self.assertEqual(part(nodes, list(row)), [-1], (nodes, row))


if __name__ == "__main__":
    unittest.main()
