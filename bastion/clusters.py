"""Growing clusters, a quick way to a small set of edges that contains a join."""

from bastion.bits import mask_of, members, parity
from bastion.errors import NoJoin
from bastion.graph import forest, neighbours
from bastion.groups import Groups


def join_within(graph, allowed, fired):
    """Returns a join of the fired nodes of which all edges are allowed."""
    nodes, edges = graph
    around = neighbours(nodes, [edges[k] for k in allowed])
    odd = {node: True for node in fired}
    taken = []
    for tree in forest(around, [nodes] + fired):
        # From the far end of a tree on, each odd vertex hands its oddness on to the one before it.
        for vertex, previous, k in reversed(tree):
            if odd.get(vertex, False):
                if previous >= 0:
                    taken.append(allowed[k])
                    odd[previous] = not odd.get(previous, False)
                elif vertex != nodes:
                    raise NoJoin("the allowed edges do not join the fired nodes")
    return sorted(taken)


def next_cluster(groups, fired, opened):
    """Returns the mask of the cluster that grows next, 0 if all are settled."""
    marked = mask_of(fired)
    # A cluster without fired nodes is settled.
    leaders = [groups.least(node) for node in fired]
    unsettled = [v for v in leaders if parity(groups.mask(v) & marked) == 1 and groups.mask(v) & opened == 0]
    return groups.mask(min(unsettled)) if len(unsettled) > 0 else 0


def edges_out_of(around, mask):
    """Returns the list of the indexes of the edges that leave a mask of nodes."""
    found = [k for node in members(mask) for other, k in around[node] if mask >> other & 1 == 0]
    if len(found) == 0:
        raise NoJoin("no edge leaves a cluster that should grow")
    return found


def grow(graph, fired):
    """Returns the growths of all edges in the end, and the masks of the clusters that have grown, step by step."""
    nodes, edges = graph
    around = neighbours(nodes, edges)
    growth = [0] * len(edges)
    groups = Groups(nodes)
    # The mask of the nodes that a full edge connects with the boundary.
    opened = 0
    cuts = []
    cluster = next_cluster(groups, fired, opened)
    while cluster:
        cuts.append(cluster)
        for k in edges_out_of(around, cluster):
            growth[k] += 1
            a, b, _ = edges[k]
            if growth[k] == 2 and b == nodes:
                opened |= 1 << a
            elif growth[k] == 2:
                groups.unite(a, b)
        cluster = next_cluster(groups, fired, opened)
    return (growth, cuts)


def full_edges(growth):
    """Returns the ascending list of the indexes of the full edges."""
    return [k for k, grown in enumerate(growth) if grown == 2]


def clusters(graph, edges):
    """Returns the list of the clusters for a list of full edges, each an ascending list of nodes."""
    nodes, listed = graph
    groups = Groups(nodes)
    for k in edges:
        a, b, _ = listed[k]
        if b < nodes:
            groups.unite(a, b)
    return [members(groups.mask(leader)) for leader in groups.leaders()]


def cluster_join(graph, fired):
    """Returns a join of the fired nodes within the full edges of the growing clusters."""
    growth, _ = grow(graph, fired)
    return join_within(graph, full_edges(growth), fired)
