"""The calls: whether a graph is of a kind, and what proves it or says why not."""

MOST_NODES = 8

# Of a row of four nodes a, b, c, d: whether a b, a c, b c, a d, b d, c d are joined.
RING_OF_FOUR = (True, False, True, True, False, True)
BARE_PATH = (True, False, True, False, False, True)
BARE_PAIRS = (True, False, False, False, False, True)


def judge(graph):
    """How many pairs are joined."""
    if not is_graph(graph):
        return [-1]
    # Each pair is told twice, once from either end.
    return [0, len(joined_rows(graph)) // 2]


def chordal(graph):
    """1 and the first order that proves there's no chordless ring, or 0 and the first such ring."""
    if not is_graph(graph):
        return [-1]
    ring = first_ring(graph, 4, 1)
    if ring:
        return [0] + ring
    return [1] + first_order(graph)


def sides(graph):
    """1 and a side for each node, or 0 and the first ring of odd length."""
    if not is_graph(graph):
        return [-1]
    # A chord cuts an odd ring into two rings, one of them odd and shorter:
    # so the first odd ring has no chord, and it's enough to look at those without.
    ring = first_ring(graph, 3, 2)
    if ring:
        return [0] + ring
    return [1] + two_sides(graph)


def split(graph):
    """1 and the first marks that prove it, or 0 and the first ring of four or five or bare pair of pairs."""
    if not is_graph(graph):
        return [-1]
    # A chordless ring of six or more holds a bare pair of pairs: so behind the first search there are none.
    forbidden = first_four(graph, (RING_OF_FOUR, BARE_PAIRS)) or first_ring(graph, 5, 1)
    if forbidden:
        return [0] + forbidden
    return [1] + first_row(len(graph), [0, 1], lambda marks, mark: may_mark(graph, marks, mark))


def steps(graph):
    """1 and the first order that proves it, or 0 and the first ring of four, bare path or bare pair of pairs."""
    if not is_graph(graph):
        return [-1]
    forbidden = first_four(graph, (RING_OF_FOUR, BARE_PATH, BARE_PAIRS))
    if forbidden:
        return [0] + forbidden
    return [1] + first_row(len(graph), list(range(len(graph))), lambda row, node: may_step(graph, row, node))


def nopath(graph):
    """1 if there's no bare path, or 0 and the first one."""
    if not is_graph(graph):
        return [-1]
    path = first_four(graph, (BARE_PATH,))
    if path:
        return [0] + path
    return [1]


def is_graph(graph):
    """Whether the numbers tell a graph."""
    size = len(graph)
    if size < 1 or size > MOST_NODES:
        return False
    for node in range(size):
        if graph[node] >> size != 0 or joined(graph, node, node):
            return False
        for other in range(node):
            if joined(graph, node, other) != joined(graph, other, node):
                return False
    return True


def joined(graph, node, other):
    """Whether the two nodes are joined."""
    return (graph[node] >> other) & 1 == 1


def joined_rows(graph):
    """All rows of two joined nodes, the first one first."""
    rows = []
    for node in range(len(graph)):
        for other in range(len(graph)):
            if joined(graph, node, other):
                rows.append([node, other])
    return rows


def first_ring(graph, shortest, step):
    """The first ring without a chord that has shortest nodes, or step more, or twice step more ..; else no row."""
    rows = joined_rows(graph)
    for length in range(3, len(graph) + 1):
        rows = longer_rows(graph, rows)
        rings = [row for row in rows if joined(graph, row[-1], row[0])]
        if rings and length >= shortest and (length - shortest) % step == 0:
            return rings[0]
        # In a longer ring the pair that closes this one would be a chord.
        rows = [row for row in rows if not joined(graph, row[-1], row[0])]
    return []


def longer_rows(graph, rows):
    """The rows with one node more, in the same order: so the first one stays first."""
    longer = []
    for row in rows:
        for node in range(len(graph)):
            if carries_on(graph, row, node):
                longer.append(row + [node])
    return longer


def carries_on(graph, row, node):
    """Whether the node is new, joined with the row's last, and with no other of it but perhaps the first."""
    if node in row or not joined(graph, row[-1], node):
        return False
    return not any([joined(graph, node, other) for other in row[1:-1]])


def first_order(graph):
    """The first order in which of each node those behind it that it's joined with are joined with one another."""
    order = []
    left = list(range(len(graph)))
    while left:
        # Without a chordless ring there's always a node that can go ahead of all that are left,
        # and what's left without it has no such ring either: so the least such node is never wrong.
        least = min([node for node in left if can_lead(graph, node, left)])
        order.append(least)
        left = [node for node in left if node != least]
    return order


def can_lead(graph, node, left):
    """Whether those of the nodes left that this one is joined with are all joined with one another."""
    near = [other for other in left if joined(graph, node, other)]
    for one in near:
        for other in near:
            if one != other and not joined(graph, one, other):
                return False
    return True


def two_sides(graph):
    """For each node 0 or 1, joined ones different, 0 for the least of each part; there's no odd ring."""
    marks = [None] * len(graph)
    for node in range(len(graph)):
        if marks[node] is None:
            marks[node] = 0
            mark_part(graph, marks, node)
    return marks


def mark_part(graph, marks, start):
    """Marks all that hang together with the start, which is marked already."""
    waiting = [start]
    while waiting:
        node = waiting.pop()
        for other in range(len(graph)):
            if marks[other] is None and joined(graph, node, other):
                marks[other] = 1 - marks[node]
                waiting.append(other)


def first_row(length, choices, fits):
    """The first row of this length in which each choice fits those ahead of it; else no row."""
    waiting = [[]]
    while waiting:
        row = waiting.pop()
        if len(row) == length:
            return row
        # The last one put there is looked at next: so the lesser choice comes behind the greater.
        for choice in reversed(choices):
            if fits(row, choice):
                waiting.append(row + [choice])
    return []


def first_four(graph, shapes):
    """The first row of four nodes that has one of the shapes; else no row."""
    return first_row(4, list(range(len(graph))), lambda row, node: begins_shape(graph, shapes, row, node))


def begins_shape(graph, shapes, row, node):
    """Whether the node is new and the row with it begins one of the shapes."""
    told = pairs_joined(graph, row + [node])
    return node not in row and any([shape[:len(told)] == told for shape in shapes])


def pairs_joined(graph, row):
    """For each pair of the row whether it's joined, in the order in which the shapes tell it."""
    told = []
    for place in range(len(row)):
        for ahead in range(place):
            told.append(joined(graph, row[ahead], row[place]))
    return tuple(told)


def may_mark(graph, marks, mark):
    """Whether the node behind those marked can have this mark too."""
    node = len(marks)
    alike = [other for other in range(node) if marks[other] == mark]
    return all([joined(graph, node, other) == (mark == 1) for other in alike])


def may_step(graph, row, node):
    """Whether the node is new, and behind the row with it all others can stand as they must."""
    if node in row:
        return False
    ahead = row + [node]
    left = list(range(len(graph)))
    while len(left) > len(ahead):
        # Who can stand last among those left still can when others have gone: so none is taken away wrongly.
        ends = [other for other in left if other not in ahead and may_end(graph, left, other)]
        if not ends:
            return False
        left = [other for other in left if other not in ends]
    return True


def may_end(graph, left, node):
    """Whether this one of the nodes left is joined with all others of them or with none."""
    near = [other for other in left if joined(graph, node, other)]
    return len(near) in (0, len(left) - 1)
