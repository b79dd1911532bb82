"""Graphs: tuples (nodes, edges) of a number of nodes and a tuple of edges (a, b, flip).

The vertices of a graph are its nodes and, with the number behind them, the boundary.
"""

from bastion.bits import mask_of, members
from bastion.circuit import round_ops
from bastion.faults import simple_effects
from bastion.patch import check_mask, corners, patch
from bastion.record import checks_against


def logical_marks(rows, columns, letter, mark):
    """Returns a dict with the mark for each data qubit at which a letter changes the logical bit, otherwise 0."""
    code = patch(rows, columns)
    return {q: mark * code.logical_bits(letter, 1 << q)[0] for q in range(rows * columns)}


def round_results(rows, columns, letter):
    """Returns the list of the results of all faults of one letter in one round.

    A result is a mask. If there are m checks against the letter, its members below m are nodes of
    the row of the round, those from m to 2 * m - 1 nodes of the next row, and 2 * m is the flip.
    """
    masks = [check_mask(rows, columns, i, j) for _, i, j in corners(rows, columns)]
    checks = checks_against(rows, columns, letter)
    many = len(checks)
    marks = [0] * len(masks)
    ends = logical_marks(rows, columns, letter, 1 << 2 * many)
    for j, k in enumerate(checks):
        this_row = 1 << j
        next_row = this_row << many
        # A reading that is inverted differs from that of the round before and from that of the next one.
        marks[k] = this_row | next_row
        for q in members(masks[k]):
            ends[q] ^= next_row
    return simple_effects(round_ops(rows, columns), letter, marks, ends)


def edge_between(fired, nodes, flip):
    """Returns the edge of a fault that fires one or two nodes."""
    return (fired[0], fired[1] if len(fired) > 1 else nodes, flip)


def edge_of(result, many, shift, nodes):
    """Returns the edge that a result stands for in the round whose first node has the number shift."""
    fired = [shift + k for k in members(result) if k < 2 * many]
    return edge_between(fired, nodes, result >> 2 * many)


def life_graph(rows, columns, rounds, letter):
    """Returns the graph of a life for a letter."""
    many = len(checks_against(rows, columns, letter))
    nodes = (rounds + 1) * many
    found = {}
    for result in round_results(rows, columns, letter):
        # No fault has a flip without a fired node, so a result other than 0 has nodes.
        if result:
            for t in range(rounds):
                found[edge_of(result, many, t * many, nodes)] = True
    return (nodes, tuple(sorted(found)))


def odd_nodes(graph, edges):
    """Returns the ascending list of the nodes that are ends of an odd number of the edges."""
    nodes, listed = graph
    ends = mask_of([end for k in edges for end in listed[k][:2]])
    return [node for node in members(ends) if node < nodes]


def total_flip(graph, edges):
    """Returns the sum of the flips of the edges modulo 2."""
    return sum([graph[1][k][2] for k in edges]) % 2


def neighbours(nodes, edges):
    """Returns, for each vertex of a graph, the list of the pairs (other end, index) of its edges."""
    around = [[] for _ in range(nodes + 1)]
    for k, (a, b, _) in enumerate(edges):
        around[a].append((b, k))
        around[b].append((a, k))
    return around


def shortest_tree(around, start):
    """Returns a tree of shortest paths from a vertex to all that it reaches, the nearest ones first.

    Its items are tuples (vertex, previous vertex, index of the edge between both). The start comes
    first, with -1 in the other two places.
    """
    tree = [(start, -1, -1)]
    seen = {start: True}
    layer = [start]
    while layer:
        following = []
        for vertex in layer:
            for other, k in around[vertex]:
                if other not in seen:
                    seen[other] = True
                    tree.append((other, vertex, k))
                    following.append(other)
        layer = following
    return tree


def forest(around, starts):
    """Returns the list of the trees from the starts, without those that lie in an earlier tree."""
    trees = []
    seen = {}
    for start in starts:
        if start not in seen:
            tree = shortest_tree(around, start)
            trees.append(tree)
            for item in tree:
                seen[item[0]] = True
    return trees


def tree_distances(tree, vertices):
    """Returns a list with the distance of each vertex from the start of a tree, -1 outside of the tree."""
    far = [-1] * vertices
    for vertex, previous, _ in tree:
        far[vertex] = 0 if previous < 0 else far[previous] + 1
    return far


def tree_path(tree, vertex):
    """Returns the list of the edges of the path in a tree from a vertex to the start."""
    before = {item[0]: item for item in tree}
    path = []
    _, previous, k = before[vertex]
    while previous >= 0:
        path.append(k)
        _, previous, k = before[previous]
    return path


def distances(graph, start):
    """Returns a list with the distance of each node and of the boundary from a vertex, -1 if there is no path."""
    nodes, edges = graph
    return tree_distances(shortest_tree(neighbours(nodes, edges), start), nodes + 1)
