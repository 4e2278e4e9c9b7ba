"""Graphs for the tests."""

from itertools import combinations, product


def graph_of(size, pairs):
    graph = [0] * size
    for node, other in pairs:
        graph[node] |= 1 << other
        graph[other] |= 1 << node
    return graph


def all_graphs(size):
    pairs = list(combinations(range(size), 2))
    for chosen in product((False, True), repeat=len(pairs)):
        yield graph_of(size, [pair for pair, there in zip(pairs, chosen) if there])


def some_graphs(size, count):
    """Graphs thin enough for long rings, spread by a fixed row of numbers."""
    state = size
    for turn in range(count):
        pairs = []
        for pair in combinations(range(size), 2):
            state = (state * 1103515245 + 12345) % 2147483648
            if (state >> 16) % 100 < 20 + turn % 4 * 8:
                pairs.append(pair)
        yield graph_of(size, pairs)
