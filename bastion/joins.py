"""Least joins of few fired nodes, and the cuts that show that no join is smaller."""

from bastion.bits import mask_of, members, parity
from bastion.errors import NoJoin, TooMany
from bastion.graph import forest, neighbours, shortest_tree, tree_distances, tree_path
from bastion.groups import Groups

# The greatest number of fired nodes whose least join is looked for.
MAX_FIRED = 10


def times_left(cuts, edge):
    """Returns the number of the cuts that an edge leaves."""
    a, b, _ = edge
    return sum([(mask >> a ^ mask >> b) & 1 for mask in cuts])


def shows_least(graph, fired, size, cuts):
    """Returns True if the cuts show that every join has at least size edges, otherwise False."""
    if len(cuts) != 2 * size:
        return False
    marked = mask_of(fired)
    if any([parity(mask & marked) == 0 for mask in cuts]):
        return False
    return all([times_left(cuts, edge) <= 2 for edge in graph[1]])


def fired_parts(around, fired):
    """Returns the connected parts of a graph that have fired nodes, as pairs (base, fired nodes of the part).

    The base is the boundary in its own part, and a fired node in every other part.
    """
    boundary = len(around) - 1
    marked = {node: True for node in fired}
    parts = []
    for tree in forest(around, [boundary] + fired):
        base = tree[0][0]
        inside = sorted([item[0] for item in tree if item[0] in marked])
        if base != boundary and len(inside) % 2 == 1:
            raise NoJoin("a part without the boundary has an odd number of fired nodes")
        if len(inside) > 0:
            parts.append((base, inside))
    return parts


def pair_choices(mask):
    """Returns a list (i, j, rest) of the ways to pair the least member i of a mask with another one j."""
    points = members(mask)
    return [(points[0], other, mask ^ 1 << points[0] ^ 1 << other) for other in points[1:]]


def pair_sums(gaps):
    """Returns, for each mask of points, the least sum of the gaps of pairs of them, -1 for an odd number of points."""
    sums = [0]
    for mask in range(1, 1 << len(gaps)):
        # A mask with an odd number of members cannot be paired, and is never a rest of one that can.
        values = [] if parity(mask) else [gaps[i][j] + sums[rest] for i, j, rest in pair_choices(mask)]
        sums.append(min(values, default=-1))
    return sums


def least_pairs(gaps, sums, mask):
    """Returns a list of pairs of the points of a mask with the least sum of gaps."""
    pairs = []
    while mask:
        choices = [(gaps[i][j] + sums[rest], i, j, rest) for i, j, rest in pair_choices(mask)]
        _, i, j, mask = min(choices)
        pairs.append((i, j))
    return pairs


def edge_level(first, second):
    """Returns the level from which on an edge connects its ends, for the heights of both.

    With a new vertex on the middle of every edge all heights are twice as great. The new vertex is
    by 1 higher than the lower end, and the edge connects the ends if all three are low enough.
    """
    return max(2 * first, 2 * second, 2 * min(first, second) + 1)


def level_cuts(graph, heights, base):
    """Returns the cuts of all levels: the groups of low vertices without the base (point 8.5)."""
    nodes, edges = graph
    ready = {}
    for a, b, _ in edges:
        if a in heights:
            ready.setdefault(edge_level(heights[a], heights[b]), []).append((a, b))
    groups = Groups(nodes + 1)
    cuts = []
    for level in range(2 * min(heights.values()), 2 * max(heights.values()) + 2):
        for a, b in ready.get(level, []):
            groups.unite(a, b)
        low = [v for v in groups.leaders() if v in heights and 2 * heights[v] <= level]
        cuts.extend([groups.mask(v) for v in low if v != groups.least(base)])
    return cuts


def height_of(far, sums, turned, vertex):
    """Returns the number of edges of a least join of a vertex and of the points of a mask, an odd number of them."""
    return min([far[i][vertex] + sums[turned ^ 1 << i] for i in members(turned)])


def part_join(graph, around, base, fired):
    """Returns a least join of the fired nodes of one part, and its cuts."""
    points = fired if base in fired else fired + [base]
    trees = [shortest_tree(around, point) for point in points]
    far = [tree_distances(tree, len(around)) for tree in trees]
    gaps = [[table[point] for point in points] for table in far]
    sums = pair_sums(gaps)
    # The fired ones are the first points. If their number is odd, the base is the boundary and the last point.
    joined = mask_of(list(range(len(fired) + len(fired) % 2)))
    paths = [tree_path(trees[i], points[j]) for i, j in least_pairs(gaps, sums, joined)]
    edges = members(mask_of([k for path in paths for k in path]))
    turned = joined ^ 1 << points.index(base)
    heights = {item[0]: height_of(far, sums, turned, item[0]) for item in trees[0]}
    return (edges, level_cuts(graph, heights, base))


def least_join(graph, fired):
    """Returns a join with the least number of edges, and cuts that show that it is least."""
    if len(fired) > MAX_FIRED:
        raise TooMany("too many nodes are fired")
    nodes, listed = graph
    around = neighbours(nodes, listed)
    edges = []
    cuts = []
    for base, inside in fired_parts(around, fired):
        more_edges, more_cuts = part_join(graph, around, base, inside)
        edges.extend(more_edges)
        cuts.extend(more_cuts)
    return (sorted(edges), cuts)
