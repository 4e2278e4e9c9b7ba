"""Graphs for the tests."""

from itertools import combinations, product


def graph_of(size, pairs):
    graph = [0] * size
    for node, other in pairs:
        graph[node] |= 1 << other
        graph[other] |= 1 << node
    return graph


def all_graphs(size):
    pairs = list(combinations(range(size), 2))
    for chosen in product((False, True), repeat=len(pairs)):
        yield graph_of(size, [pair for pair, there in zip(pairs, chosen) if there])


def some_graphs(size, count):
    """Graphs thin enough for long rings, spread by a fixed row of numbers."""
    state = size
    for turn in range(count):
        pairs = []
        for pair in combinations(range(size), 2):
            state = (state * 1103515245 + 12345) % 2147483648
            if (state >> 16) % 100 < 20 + turn % 4 * 8:
                pairs.append(pair)
        yield graph_of(size, pairs)


def ring_of(*nodes):
    return list(zip(nodes, nodes[1:] + nodes[:1]))


def path_of(*nodes):
    return list(zip(nodes, nodes[1:]))


def all_pairs(size):
    return [(node, other) for node in range(size) for other in range(node)]


class Spread:
    """Numbers spread by a fixed rule, the same each time."""

    def __init__(self, state):
        self.state = state

    def below(self, limit):
        self.state = (self.state * 1103515245 + 12345) % 2147483648
        return (self.state >> 16) % limit

    def order(self, size):
        """All nodes in some order."""
        nodes = list(range(size))
        for place in range(size - 1, 0, -1):
            other = self.below(place + 1)
            nodes[place], nodes[other] = nodes[other], nodes[place]
        return nodes


def split_pairs(size, spread):
    marks = [spread.below(2) for node in range(size)]
    return [
        (one, other) for one, other in combinations(range(size), 2)
        if marks[one] + marks[other] == 2 or marks[one] + marks[other] == 1 and spread.below(2)
    ]


def step_pairs(size, spread):
    marks = [spread.below(2) for node in range(size)]
    return [(one, other) for one, other in combinations(range(size), 2) if marks[other]]


def pathless_pairs(size, spread):
    """Parts are put together, two by two, all of them joined or none, until there's one."""
    parts = [[node] for node in range(size)]
    pairs = []
    while len(parts) > 1:
        one = parts.pop(spread.below(len(parts)))
        other = parts.pop(spread.below(len(parts)))
        if spread.below(2):
            pairs.extend(product(one, other))
        parts.append(one + other)
    return pairs


def interval_pairs(size, spread):
    spans = [sorted((spread.below(2 * size), spread.below(2 * size))) for node in range(size)]
    return [
        (one, other) for one, other in combinations(range(size), 2)
        if max(spans[one][0], spans[other][0]) <= min(spans[one][1], spans[other][1])
    ]


def good_graphs(size, count):
    """Graphs of good kinds in turn, their nodes in any order; every other time one pair is changed."""
    spread = Spread(size)
    kinds = (split_pairs, step_pairs, pathless_pairs, interval_pairs)
    for turn in range(count):
        order = spread.order(size)
        graph = graph_of(size, [(order[one], order[other]) for one, other in kinds[turn % 4](size, spread)])
        if turn // 4 % 2:
            graph[order[0]] ^= 1 << order[1]
            graph[order[1]] ^= 1 << order[0]
        yield graph
