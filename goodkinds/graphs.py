"""The calls: whether a graph is of a kind, and what proves it or says why not."""

MOST_NODES = 8

# A shape tells of each place of a row with which places ahead of it the node there is joined.
BARE_PATH = ((), (0,), (1,), (2,))
BARE_PAIRS = ((), (0,), (), (2,))


def judge(graph):
    """How many pairs are joined."""
    if not is_graph(graph):
        return [-1]
    # Each pair is told twice, once from either end.
    return [0, sum([len(members(number)) for number in graph]) // 2]


def chordal(graph):
    """1 and the first order that proves there's no chordless ring, or 0 and the first such ring."""
    if not is_graph(graph):
        return [-1]
    ring = first_ring(graph, list(range(4, len(graph) + 1)))
    if ring:
        return [0] + ring
    return [1] + first_row(len(graph), list(range(len(graph))), lambda row, node: may_lead(graph, row, node))


def sides(graph):
    """1 and a side for each node, or 0 and the first ring of odd length."""
    if not is_graph(graph):
        return [-1]
    # A chord cuts an odd ring into two rings, one of them odd and shorter:
    # so the first odd ring has no chord, and it's enough to look at those without.
    ring = first_ring(graph, list(range(3, len(graph) + 1, 2)))
    if ring:
        return [0] + ring
    # Where the sides of a part can be exchanged the first row has 0 for its least node.
    return [1] + first_colours(graph, 2)


def split(graph):
    """1 and the first marks that prove it, or 0 and the first ring of four or five or bare pair of pairs."""
    if not is_graph(graph):
        return [-1]
    forbidden = first_shaped(graph, (ring_shape(4), ring_shape(5), BARE_PAIRS))
    if forbidden:
        return [0] + forbidden
    return [1] + first_row(len(graph), [0, 1], lambda marks, mark: may_mark(graph, marks, mark))


def steps(graph):
    """1 and the first order that proves it, or 0 and the first ring of four, bare path or bare pair of pairs."""
    if not is_graph(graph):
        return [-1]
    forbidden = first_shaped(graph, (ring_shape(4), BARE_PATH, BARE_PAIRS))
    if forbidden:
        return [0] + forbidden
    return [1] + first_row(len(graph), list(range(len(graph))), lambda row, node: may_step(graph, row, node))


def nopath(graph):
    """1 if there's no bare path, or 0 and the first one."""
    if not is_graph(graph):
        return [-1]
    path = first_shaped(graph, (BARE_PATH,))
    if path:
        return [0] + path
    return [1]


def interval(graph):
    """1 and two numbers for each node, or 0 and the first chordless ring or the first three nodes apart."""
    if not is_graph(graph):
        return [-1]
    forbidden = first_ring(graph, list(range(4, len(graph) + 1))) or first_three(graph)
    if forbidden:
        return [0] + forbidden
    greatest = greatest_cliques(graph)
    order = first_row(len(greatest), greatest, lambda row, clique: may_follow(greatest, row, clique))
    answer = [1]
    for node in range(len(graph)):
        places = [place for place in range(len(order)) if node in members(order[place])]
        answer.extend([places[0], places[-1]])
    return answer


def directed(graph):
    """1 if each joined pair can be directed so that ways of two steps have their short cut, else 0."""
    if not is_graph(graph):
        return [-1]
    for start in range(len(graph)):
        for end in members(graph[start]):
            # Where no direction forces its own opposite all pairs can be directed: so a theorem of Gallai says.
            if (end, start) in reached((start, end), lambda pair: forced_by(graph, pair)):
                return [0, 0]
    return [0, 1]


def cliques(graph):
    """The greatest cliques, the lesser number first."""
    if not is_graph(graph):
        return [-1]
    return [0] + greatest_cliques(graph)


def numbers(graph):
    """The most nodes of which any two are joined, the most of which no two are, the fewest colours."""
    if not is_graph(graph):
        return [-1]
    together = members(most_joined(graph))
    asunder = members(most_joined(opposite(graph)))
    return [0, len(together), len(asunder), max(fewest_colours(graph)) + 1]


def colours(graph):
    """For each node a colour, joined ones different, by as few as can be: the first such row."""
    if not is_graph(graph):
        return [-1]
    return [0] + fewest_colours(graph)


def apart(graph):
    """Of the sets of which no two nodes are joined, with the most nodes, the least number."""
    if not is_graph(graph):
        return [-1]
    return [0, most_joined(opposite(graph))]


def modules(graph):
    """How many strong modules of two nodes or more there are; they, the smaller first; and the kind of each."""
    if not is_graph(graph):
        return [-1]
    every = [nodes for nodes in range(1, 1 << len(graph)) if is_module(graph, nodes)]
    strong = [nodes for nodes in every if len(members(nodes)) > 1 and is_strong(nodes, every)]
    # Of one size they stay as they were, the lesser number first.
    told = sorted(strong, key=lambda nodes: len(members(nodes)))
    return [0, len(told)] + told + [kind_of(graph, nodes) for nodes in told]


def turned(graph):
    """The graph in which two are joined just if they aren't in this."""
    if not is_graph(graph):
        return [-1]
    return [0] + opposite(graph)


def part(nodes, graph):
    """The graph of the nodes of this set, numbered in their order, joined as here."""
    if not is_graph(graph):
        return [-1]
    if nodes == 0 or nodes >> len(graph) != 0:
        return [-2]
    kept = members(nodes)
    answer = [0]
    for node in kept:
        places = [place for place in range(len(kept)) if joined(graph, node, kept[place])]
        answer.append(sum([1 << place for place in places]))
    return answer


def is_graph(graph):
    """Whether the numbers tell a graph."""
    size = len(graph)
    if size < 1 or size > MOST_NODES:
        return False
    for node in range(size):
        if graph[node] >> size != 0 or joined(graph, node, node):
            return False
        for other in range(node):
            if joined(graph, node, other) != joined(graph, other, node):
                return False
    return True


def joined(graph, node, other):
    """Whether the two nodes are joined."""
    return (graph[node] >> other) & 1 == 1


def neighbours(graph, node, among):
    """Those of some nodes that the node is joined with."""
    return [other for other in among if joined(graph, node, other)]


def members(nodes):
    """The nodes of a set."""
    return [node for node in range(MOST_NODES) if (nodes >> node) & 1 == 1]


def first_row(length, choices, fits):
    """The first row of this length in which each choice fits those ahead of it; else no row."""
    waiting = [[]]
    while waiting:
        row = waiting.pop()
        if len(row) == length:
            return row
        # The last one put there is looked at next: so the lesser choice comes behind the greater.
        for choice in reversed(choices):
            if fits(row, choice):
                waiting.append(row + [choice])
    return []


def first_shaped(graph, shapes):
    """The first of all rows of nodes that have one of the shapes; else no row."""
    rows = [first_of_shape(graph, shape) for shape in shapes]
    return min([row for row in rows if row], key=lambda row: (len(row), row), default=[])


def first_of_shape(graph, shape):
    """The first row of nodes that has the shape; else no row."""
    return first_row(len(shape), list(range(len(graph))), lambda row, node: keeps_shape(graph, shape, row, node))


def keeps_shape(graph, shape, row, node):
    """Whether the node is new, and of the row joined with just those that the shape tells."""
    near = [place for place in range(len(row)) if joined(graph, row[place], node)]
    return node not in row and tuple(near) == shape[len(row)]


def ring_shape(length):
    """The shape of a ring without a chord."""
    return [()] + [(place,) for place in range(length - 2)] + [(0, length - 2)]


def first_ring(graph, lengths):
    """The first ring without a chord that has one of these lengths; else no row."""
    return first_shaped(graph, [ring_shape(length) for length in lengths])


def may_lead(graph, row, node):
    """Whether the node is new, and those it's joined with that aren't in the row are all joined with one another."""
    near = [other for other in members(graph[node]) if other not in row]
    return node not in row and all([len(neighbours(graph, other, near)) == len(near) - 1 for other in near])


def may_mark(graph, marks, mark):
    """Whether the node behind those marked can have this mark too."""
    node = len(marks)
    alike = [other for other in range(node) if marks[other] == mark]
    return all([joined(graph, node, other) == (mark == 1) for other in alike])


def may_step(graph, row, node):
    """Whether the node is new, and behind the row with it all others can stand as they must."""
    if node in row:
        return False
    ahead = row + [node]
    left = list(range(len(graph)))
    while len(left) > len(ahead):
        # Who can stand last among those left still can when others have gone: so none is taken away wrongly.
        ends = [other for other in left if other not in ahead and may_end(graph, left, other)]
        if not ends:
            return False
        left = [other for other in left if other not in ends]
    return True


def may_end(graph, left, node):
    """Whether this one of the nodes left is joined with all others of them or with none."""
    return len(neighbours(graph, node, left)) in (0, len(left) - 1)


def reached(start, following):
    """All that one comes to from the start step by step, the start too."""
    found = [start]
    waiting = [start]
    while waiting:
        for other in following(waiting.pop()):
            if other not in found:
                found.append(other)
                waiting.append(other)
    return found


def first_three(graph):
    """The first row of three nodes, no two joined, with a way between any two past the third; else no row."""
    return first_row(3, list(range(len(graph))), lambda row, node: begins_three(graph, row, node))


def begins_three(graph, row, node):
    """Whether the node is new and the row with it begins such a row of three."""
    if node in row or neighbours(graph, node, row):
        return False
    if len(row) < 2:
        return True
    if not way_past(graph, row[0], row[1], node):
        return False
    return way_past(graph, row[0], node, row[1]) and way_past(graph, row[1], node, row[0])


def way_past(graph, start, end, third):
    """Whether one comes from the start to the end by nodes that are neither the third nor joined with it."""
    free = [node for node in range(len(graph)) if node != third and not joined(graph, node, third)]
    return start in free and end in reached(start, lambda node: neighbours(graph, node, free))


def greatest_cliques(graph):
    """The cliques that are in no other, the lesser number first."""
    found = []
    for nodes in range(1, 1 << len(graph)):
        # No node is joined with itself: so a node that's joined with the whole set is outside it.
        if is_clique(graph, nodes) and not any([number & nodes == nodes for number in graph]):
            found.append(nodes)
    return found


def is_clique(graph, nodes):
    """Whether any two nodes of the set are joined."""
    return all([(graph[node] | 1 << node) & nodes == nodes for node in members(nodes)])


def may_follow(greatest, row, clique):
    """Whether the clique is new, and no node that the row's last has and it hasn't is in one still to come."""
    if clique in row:
        return False
    ended = row[-1] & ~clique if row else 0
    return not any([ended & other != 0 for other in greatest if other not in row])


def forced_by(graph, pair):
    """The directions that this one forces: without them a way of two steps would lack its short cut."""
    start = pair[0]
    end = pair[1]
    forced = []
    for other in range(len(graph)):
        if other != start and joined(graph, other, end) and not joined(graph, other, start):
            forced.append((other, end))
        if other != end and joined(graph, other, start) and not joined(graph, other, end):
            forced.append((start, other))
    return forced


def most_joined(graph):
    """Of the sets of which any two nodes are joined, with the most nodes, the least number."""
    # Of several that are alike max takes the one told first.
    return max(greatest_cliques(graph), key=lambda nodes: len(members(nodes)))


def opposite(graph):
    """The graph in which two are joined just if they aren't in this."""
    everything = (1 << len(graph)) - 1
    return [everything - (1 << node) - graph[node] for node in range(len(graph))]


def fewest_colours(graph):
    """The first row of colours for the nodes in which joined ones differ, by as few as can be."""
    # Nodes of which any two are joined need as many colours: so fewer needn't be tried.
    count = len(members(most_joined(graph)))
    row = first_colours(graph, count)
    while not row:
        count += 1
        row = first_colours(graph, count)
    return row


def first_colours(graph, count):
    """The first row of colours below count for the nodes in which joined ones differ; else no row."""
    return first_row(len(graph), list(range(count)), lambda row, colour: may_colour(graph, row, colour))


def may_colour(graph, row, colour):
    """Whether the node behind those coloured can have this colour too."""
    node = len(row)
    return colour not in [row[other] for other in neighbours(graph, node, list(range(node)))]


def is_module(graph, nodes):
    """Whether each node outside the set is joined with all of it or with none."""
    outside = [node for node in range(len(graph)) if node not in members(nodes)]
    return all([graph[node] & nodes in (0, nodes) for node in outside])


def is_strong(nodes, every):
    """Whether of all modules none overlaps this one: they have no nodes in common, or one is within the other."""
    return all([nodes & other in (0, nodes, other) for other in every])


def kind_of(graph, nodes):
    """0 if the set doesn't hang together, 1 if what's not joined in it doesn't, else 2."""
    if not hangs_together(graph, nodes):
        return 0
    if not hangs_together(opposite(graph), nodes):
        return 1
    return 2


def hangs_together(graph, nodes):
    """Whether one comes from each node of the set to each by joined nodes of the set."""
    inside = members(nodes)
    return len(reached(inside[0], lambda node: neighbours(graph, node, inside))) == len(inside)
