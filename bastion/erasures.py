"""Erasures, operations of a life that are known to be bad, and joins that may use them for free."""

from bastion.bits import mask_of, members, parity
from bastion.circuit import round_ops
from bastion.clusters import join_within
from bastion.faults import simple_faults
from bastion.graph import edge_of, life_graph, odd_nodes, round_results
from bastion.groups import Groups
from bastion.joins import least_join, times_left
from bastion.memory import LETTERS, check_rows, decoding_of
from bastion.record import checks_against, fired_nodes


def results_at(rows, columns, letter):
    """Returns, for each operation of a round, the list of the results of the faults of one letter at it."""
    ops = round_ops(rows, columns)
    found = [[] for _ in ops]
    for fault, result in zip(simple_faults(ops, letter), round_results(rows, columns, letter)):
        # A fault without a result fires no node, and stands for no edge.
        if result:
            found[fault[0]].append(result)
    return found


def erased_edges(rows, columns, rounds, letter, erasures):
    """Returns the ascending list of the edges that faults of one letter at the erasures stand for."""
    many = len(checks_against(rows, columns, letter))
    nodes, edges = life_graph(rows, columns, rounds, letter)
    results = results_at(rows, columns, letter)
    erased = {}
    for erasure in erasures:
        t, at = divmod(erasure, len(results))
        for result in results[at]:
            erased[edge_of(result, many, t * many, nodes)] = True
    return [k for k, edge in enumerate(edges) if edge in erased]


def shows_cheapest(graph, free, fired, size, cuts):
    """Returns True if the cuts show that every join has at least the cost size, otherwise False."""
    if len(cuts) != 2 * size:
        return False
    marked = mask_of(fired)
    if any([parity(mask & marked) == 0 for mask in cuts]):
        return False
    most = [2] * len(graph[1])
    for k in free:
        most[k] = 0
    return all([times_left(cuts, edge) <= many for edge, many in zip(graph[1], most)])


def free_groups(graph, free):
    """Returns the groups of the vertices that free edges connect; open groups are in that of the boundary."""
    nodes, edges = graph
    groups = Groups(nodes + 1)
    for k in free:
        groups.unite(edges[k][0], edges[k][1])
    return groups


class Shrunk:
    """A graph in which each group that is not open is one node, and open groups are parts of the boundary."""

    def __init__(self, graph, groups):
        nodes, edges = graph
        boundary = groups.least(nodes)
        self._leaders = [leader for leader in groups.leaders() if leader != boundary]
        self._masks = [groups.mask(leader) for leader in self._leaders]
        numbers = {leader: k for k, leader in enumerate(self._leaders)}
        # Of the edges between the same groups, the first one stands for all.
        self._edges = {}
        for k, (a, b, _) in enumerate(edges):
            ends = sorted([numbers.get(groups.least(end), len(numbers)) for end in (a, b)])
            if ends[0] != ends[1]:
                self._edges.setdefault((ends[0], ends[1], 0), k)

    def graph(self):
        """Returns the graph of the groups."""
        return (len(self._leaders), tuple(sorted(self._edges)))

    def fired(self, fired):
        """Returns the ascending list of the nodes that are odd groups."""
        marked = mask_of(fired)
        return [k for k, mask in enumerate(self._masks) if parity(mask & marked) == 1]

    def edges_of(self, join):
        """Returns the ascending list of the edges that the edges of a join of groups stand for."""
        listed = sorted(self._edges)
        return sorted([self._edges[listed[k]] for k in join])

    def cut_of(self, cut):
        """Returns the mask of the nodes in the groups of a cut."""
        total = 0
        for k in members(cut):
            total |= self._masks[k]
        return total


def cheapest_join(graph, free, fired):
    """Returns a join of the least cost, and cuts that show that no join costs less."""
    small = Shrunk(graph, free_groups(graph, free))
    join, cuts = least_join(small.graph(), small.fired(fired))
    paid = small.edges_of(join)
    left = mask_of(fired) ^ mask_of(odd_nodes(graph, paid))
    edges = paid + join_within(graph, free, members(left))
    return (sorted(edges), [small.cut_of(cut) for cut in cuts])


def decoded_with(memory, record, erasures):
    """Returns the Decoding of a record of a memory, with cheapest joins."""
    rows = memory.rows
    columns = memory.columns
    check_rows(record, memory.rounds + 2, rows * columns - 1)
    joins = {}
    for letter in LETTERS:
        free = erased_edges(rows, columns, memory.rounds, letter, erasures)
        joins[letter] = cheapest_join(memory.graph(letter), free, fired_nodes(rows, columns, record, letter))
    return decoding_of(memory, record, joins)
