"""Meeting sets, which leave a forest, packings of cycles, and the kernels for both."""

from cherrystone.checks import is_number
from cherrystone.errors import BadArgument, TooLarge
from cherrystone.graphs import is_cycle, is_list, shortest_cycle
from cherrystone.masks import full_mask, mask_of, nodes_of
from cherrystone.meeting import small_meeting, trimmed
from cherrystone.shrinking import Rest

MOST_CYCLES = 40
MOST_TO_COMPRESS = 7
MOST_FOR_LEAST = 14


def meets_cycles(graph, nodes):
    """Whether this is a meeting set of the graph."""
    return is_list(graph, nodes) and trimmed(graph.masks, 0, full_mask(graph.nodes) & ~mask_of(nodes)) == 0


def are_disjoint_cycles(graph, cycles):
    """Whether this is a packing of cycles of the graph."""
    if not isinstance(cycles, list) or not all([is_cycle(graph, cycle) for cycle in cycles]):
        return False
    met = [v for cycle in cycles for v in cycle]
    return len(set(met)) == len(met)


def cycle_kernel(graph):
    """The kernel for cycles: (graph, nodes, forced)."""
    rest = Rest(graph)
    forced = []
    rest.tidy()
    tip = rest.tip()
    while tip is not None:
        forced.append(tip)
        rest.drop(tip)
        rest.tidy()
        tip = rest.tip()
    small, nodes = rest.numbered()
    return small, nodes, sorted(forced)


def lift_meeting(graph, kernel, nodes):
    """The meeting set of the graph that a meeting set of the kernel's graph stands for."""
    small, kept, forced = kernel
    if not meets_cycles(small, nodes):
        raise BadArgument("this is not a meeting set of the kernel's graph")
    return sorted(forced + [kept[v] for v in nodes])


def least_meeting(graph):
    """A meeting set with as few nodes as possible."""
    if graph.nodes > MOST_FOR_LEAST:
        raise TooLarge("the graph has more than 14 nodes")
    budget = 0
    found = small_meeting(graph.masks, [], full_mask(graph.nodes), budget, 0)
    while found is None:
        budget += 1
        found = small_meeting(graph.masks, [], full_mask(graph.nodes), budget, 0)
    return nodes_of(found)


def cycles_or_nodes(graph, k):
    """(k cycles without a common node, None), or (None, a meeting set that is small)."""
    if not is_number(k, 1, MOST_CYCLES):
        raise BadArgument("the number of cycles is not an integer from 1 to 40")
    rest = Rest(graph)
    cycles = []
    nodes = []
    rest.tidy()
    while rest.left and len(cycles) < k:
        # What is left has no node with less than three neighbours, or else a cycle of three nodes, so a shortest
        # cycle has at most 2 b + 2 nodes; without them the removed nodes between them are in no cycle, either.
        small, kept = rest.numbered()
        cycle = [kept[v] for v in shortest_cycle(small)]
        cycles.append(rest.widened(cycle))
        nodes.extend(cycle)
        for v in cycle:
            rest.drop(v)
        rest.tidy()
    if len(cycles) == k:
        return cycles, None
    return None, sorted(nodes)


def compress(graph, nodes):
    """A meeting set with fewer nodes than this one, or None if there is none."""
    if not meets_cycles(graph, nodes) or len(nodes) > MOST_TO_COMPRESS:
        raise BadArgument("this is not a meeting set of at most 7 nodes")
    # Without the nodes there is a forest, so once they are decided few choices are left.
    found = small_meeting(graph.masks, [], full_mask(graph.nodes), len(nodes) - 1, mask_of(nodes))
    return None if found is None else nodes_of(found)
