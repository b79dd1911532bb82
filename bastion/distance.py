"""The fault distance of a graph, and certificates of it."""

from bastion.bits import mask_of, members
from bastion.errors import NoSolution, NotBalanced
from bastion.graph import distances, forest, neighbours, shortest_tree, tree_distances, tree_path


def inner_edges(graph):
    """Returns the list of the edges between two nodes."""
    nodes, edges = graph
    return [edge for edge in edges if edge[1] < nodes]


def tree_flips(tree, edges):
    """Returns a dict with the flip of the path in a tree to each of its vertices."""
    flips = {}
    for vertex, previous, k in tree:
        flips[vertex] = flips[previous] ^ edges[k][2] if previous >= 0 else 0
    return flips


def inner_sides(graph):
    """Returns a list of sides of the nodes; they explain all flips between nodes if any sides do."""
    nodes = graph[0]
    edges = inner_edges(graph)
    sides = {}
    for tree in forest(neighbours(nodes, edges), list(range(nodes))):
        sides.update(tree_flips(tree, edges))
    return [sides[node] for node in range(nodes)]


def explained(graph, sides):
    """Returns True if every flip between nodes is the exclusive or of the sides of both, otherwise False."""
    return all([flip == sides[a] ^ sides[b] for a, b, flip in inner_edges(graph)])


def flip_at(graph, around, root):
    """Returns an undetected flip of two tree paths from the root and one more edge, or [] if there is none.

    No closed walk through the root with the flip 1 has fewer edges.
    """
    nodes, edges = graph
    tree = shortest_tree(around, root)
    far = tree_distances(tree, nodes + 1)
    flips = tree_flips(tree, edges)
    walks = [
        (far[a] + far[b] + 1, k)
        for k, (a, b, flip) in enumerate(edges)
        if a in flips and flips[a] ^ flips[b] ^ flip == 1
    ]
    if len(walks) == 0:
        return []
    _, k = min(walks)
    a, b, _ = edges[k]
    # What both paths have in common is walked twice, and is not needed.
    return members(mask_of([k] + tree_path(tree, a) + tree_path(tree, b)))


def least_flip(graph, balanced):
    """Returns an undetected flip with the least number of edges."""
    nodes, edges = graph
    around = neighbours(nodes, edges)
    # If sides explain the flips between nodes, every undetected flip goes through the boundary.
    roots = [nodes] if balanced else list(range(nodes + 1))
    found = [flip for flip in [flip_at(graph, around, root) for root in roots] if len(flip) > 0]
    if len(found) == 0:
        raise NoSolution("the graph has no undetected flip")
    return min(found, key=len)


def fault_distance(graph):
    """Returns the least number of edges of an undetected flip."""
    return len(least_flip(graph, explained(graph, inner_sides(graph))))


def level_fits(size, level, on_side):
    """Returns True if a node with an edge to the boundary may have a level, otherwise False."""
    return level <= 1 if on_side else level >= size - 1


def edge_fits(graph, size, sides, levels, edge):
    """Returns True if an edge is as a distance certificate demands, otherwise False."""
    a, b, flip = edge
    if b == graph[0]:
        return level_fits(size, levels[a], flip == sides[a])
    return flip == sides[a] ^ sides[b] and abs(levels[a] - levels[b]) <= 1


def shows_distance(graph, size, sides, levels):
    """Returns True if no undetected flip has fewer than size edges, as sides and levels show, otherwise False."""
    nodes, edges = graph
    if len(sides) != nodes or len(levels) != nodes:
        return False
    if any([side not in (0, 1) for side in sides]) or any([level < 0 or level > size for level in levels]):
        return False
    return all([edge_fits(graph, size, sides, levels, edge) for edge in edges])


def levels_of(graph, size, sides):
    """Returns the levels of the nodes: their distance from the part of the boundary on their side, at most size."""
    nodes, edges = graph
    kept = [(a, b, flip) for a, b, flip in edges if b < nodes or flip == sides[a]]
    far = distances((nodes, kept), nodes)[:nodes]
    return [level if 0 <= level < size else size for level in far]


def distance_certificate(graph):
    """Returns a least undetected flip, and the sides and the levels that show that it is least."""
    sides = inner_sides(graph)
    # Flips between nodes that no sides explain contain an undetected flip, so NoSolution is not due.
    if not explained(graph, sides):
        raise NotBalanced("no sides explain the flips between nodes")
    edges = least_flip(graph, True)
    return (edges, sides, levels_of(graph, len(edges), sides))
