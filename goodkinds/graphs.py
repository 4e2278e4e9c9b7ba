"""The calls: whether a graph is of a kind, and what proves it or says why not."""

MOST_NODES = 8


def judge(graph):
    """How many pairs are joined."""
    if not is_graph(graph):
        return [-1]
    # Each pair is told twice, once from either end.
    return [0, len(joined_rows(graph)) // 2]


def chordal(graph):
    """1 and the first order that proves there's no chordless ring, or 0 and the first such ring."""
    if not is_graph(graph):
        return [-1]
    ring = first_ring(graph, 4, 1)
    if ring:
        return [0] + ring
    return [1] + first_order(graph)


def sides(graph):
    """1 and a side for each node, or 0 and the first ring of odd length."""
    if not is_graph(graph):
        return [-1]
    # A chord cuts an odd ring into two rings, one of them odd and shorter:
    # so the first odd ring has no chord, and it's enough to look at those without.
    ring = first_ring(graph, 3, 2)
    if ring:
        return [0] + ring
    return [1] + two_sides(graph)


def is_graph(graph):
    """Whether the numbers tell a graph."""
    size = len(graph)
    if size < 1 or size > MOST_NODES:
        return False
    for node in range(size):
        if graph[node] >> size != 0 or joined(graph, node, node):
            return False
        for other in range(node):
            if joined(graph, node, other) != joined(graph, other, node):
                return False
    return True


def joined(graph, node, other):
    """Whether the two nodes are joined."""
    return (graph[node] >> other) & 1 == 1


def joined_rows(graph):
    """All rows of two joined nodes, the first one first."""
    rows = []
    for node in range(len(graph)):
        for other in range(len(graph)):
            if joined(graph, node, other):
                rows.append([node, other])
    return rows


def first_ring(graph, shortest, step):
    """The first ring without a chord that has shortest nodes, or step more, or twice step more ..; else no row."""
    rows = joined_rows(graph)
    for length in range(3, len(graph) + 1):
        rows = longer_rows(graph, rows)
        rings = [row for row in rows if joined(graph, row[-1], row[0])]
        if rings and length >= shortest and (length - shortest) % step == 0:
            return rings[0]
        # In a longer ring the pair that closes this one would be a chord.
        rows = [row for row in rows if not joined(graph, row[-1], row[0])]
    return []


def longer_rows(graph, rows):
    """The rows with one node more, in the same order: so the first one stays first."""
    longer = []
    for row in rows:
        for node in range(len(graph)):
            if carries_on(graph, row, node):
                longer.append(row + [node])
    return longer


def carries_on(graph, row, node):
    """Whether the node is new, joined with the row's last, and with no other of it but perhaps the first."""
    if node in row or not joined(graph, row[-1], node):
        return False
    return not any([joined(graph, node, other) for other in row[1:-1]])


def first_order(graph):
    """The first order in which of each node those behind it that it's joined with are joined with one another."""
    order = []
    left = list(range(len(graph)))
    while left:
        # Without a chordless ring there's always a node that can go ahead of all that are left,
        # and what's left without it has no such ring either: so the least such node is never wrong.
        least = min([node for node in left if can_lead(graph, node, left)])
        order.append(least)
        left = [node for node in left if node != least]
    return order


def can_lead(graph, node, left):
    """Whether those of the nodes left that this one is joined with are all joined with one another."""
    near = [other for other in left if joined(graph, node, other)]
    for one in near:
        for other in near:
            if one != other and not joined(graph, one, other):
                return False
    return True


def two_sides(graph):
    """For each node 0 or 1, joined ones different, 0 for the least of each part; there's no odd ring."""
    marks = [None] * len(graph)
    for node in range(len(graph)):
        if marks[node] is None:
            marks[node] = 0
            mark_part(graph, marks, node)
    return marks


def mark_part(graph, marks, start):
    """Marks all that hang together with the start, which is marked already."""
    waiting = [start]
    while waiting:
        node = waiting.pop()
        for other in range(len(graph)):
            if marks[other] is None and joined(graph, node, other):
                marks[other] = 1 - marks[node]
                waiting.append(other)
