"""Clusterings, the conflicts that each of them has to pay for, and the kernels for cheap ones."""

from cherrystone.checks import is_number
from cherrystone.errors import BadArgument, TooLarge
from cherrystone.graphs import components, is_list
from cherrystone.masks import count_of, full_mask, mask_of, nodes_of

MOST_COST = 20
MOST_FOR_LEAST = 9


def is_clustering(graph, clusters):
    """Whether this is a clustering of the graph."""
    if not isinstance(clusters, list) or not all([is_list(graph, one) and len(one) > 0 for one in clusters]):
        return False
    firsts = [one[0] for one in clusters]
    met = [v for one in clusters for v in one]
    return firsts == sorted(firsts) and sorted(met) == list(range(graph.nodes))


def cost(graph, clusters):
    """The number of pairs of nodes for which the clustering differs from the graph."""
    if not is_clustering(graph, clusters):
        raise BadArgument("this is not a clustering of the graph")
    wrong = 0
    for one in clusters:
        mask = mask_of(one)
        for v in one:
            wrong += count_of((graph.masks[v] ^ mask) & ~(1 << v))
    # Each pair was counted from both of its nodes.
    return wrong // 2


def is_conflict(graph, value):
    """Whether this is a conflict of the graph."""
    if not isinstance(value, tuple) or len(value) != 3:
        return False
    if not all([is_number(v, 0, graph.nodes - 1) for v in value]):
        return False
    u, v, w = value
    return u < w and graph.adjacent(u, v) and graph.adjacent(v, w) and not graph.adjacent(u, w)


def pairs_in(conflict):
    """The pairs of a conflict, the lesser node first."""
    u, v, w = conflict
    return [(min(u, v), max(u, v)), (min(v, w), max(v, w)), (u, w)]


def are_conflicts(graph, conflicts):
    """Whether this is a packing of conflicts of the graph."""
    if not isinstance(conflicts, list) or not all([is_conflict(graph, one) for one in conflicts]):
        return False
    pairs = [pair for one in conflicts for pair in pairs_in(one)]
    return len(set(pairs)) == len(pairs) and conflicts == sorted(conflicts)


def all_conflicts(graph):
    """All conflicts of the graph, ascending."""
    found = []
    for u in range(graph.nodes):
        for v in graph.neighbours(u):
            beyond = graph.masks[v] & ~graph.masks[u]
            found.extend([(u, v, w) for w in nodes_of(beyond) if u < w])
    return found


def pack_conflicts(graph):
    """A packing of conflicts to which no conflict can be added."""
    packing = []
    taken = {}
    for one in all_conflicts(graph):
        pairs = pairs_in(one)
        if not any([pair in taken for pair in pairs]):
            packing.append(one)
            for pair in pairs:
                taken[pair] = True
    return packing


def classes(graph):
    """All classes, in ascending order of their first nodes."""
    found = {}
    for v in range(graph.nodes):
        # Nodes are alike exactly if they have the same neighbours once each counts as its own neighbour.
        found.setdefault(graph.masks[v] | 1 << v, []).append(v)
    return list(found.values())


def torn_classes(graph):
    """The classes in components that are not cliques, in ascending order of their first nodes."""
    # A component is a clique exactly if it is one class.
    whole = components(graph)
    return [one for one in classes(graph) if one not in whole]


def need_cost(k):
    """Raises BadArgument for what is not a parameter of clusters."""
    if not is_number(k, 0, MOST_COST):
        raise BadArgument("the parameter is not an integer from 0 to 20")


def cluster_kernel(graph, k):
    """(kernel, None) with the kernel for clusterings that cost at most k, or (None, paper) if there are none."""
    need_cost(k)
    torn = torn_classes(graph)
    if len(torn) > 4 * k:
        return None, torn
    nodes = sorted([v for one in torn for v in one[:k + 1]])
    return (graph.induced(nodes), nodes), None


def refuses_clusters(graph, k, paper):
    """Whether this is the list of classes that shows that no clustering costs at most k."""
    need_cost(k)
    if not isinstance(paper, list) or not all([is_list(graph, one) for one in paper]):
        return False
    return len(paper) > 4 * k and paper == torn_classes(graph)


def completed(cluster, torn, k):
    """The cluster of the graph for a cluster of the kernel, with what the kernel left out of the classes in it."""
    # Of a class with more than k nodes in the kernel none is in a wrong pair, nor in another cluster than the rest of
    # them: each costs more than k. So what was left out of the class costs nothing beside them.
    more = [v for one in torn if one[0] in cluster for v in one[k + 1:]]
    return sorted(cluster + more)


def lift_clusters(graph, k, clusters):
    """The clustering of the graph that a clustering of the kernel's graph with a cost of at most k stands for."""
    kernel, _ = cluster_kernel(graph, k)
    if kernel is None:
        raise BadArgument("there is no kernel for the parameter")
    small, nodes = kernel
    # What is no clustering of the kernel's graph has no cost there.
    if cost(small, clusters) > k:
        raise BadArgument("the clustering costs more than the parameter")
    torn = torn_classes(graph)
    lifted = [completed([nodes[v] for v in one], torn, k) for one in clusters]
    whole = [part for part in components(graph) if part in classes(graph)]
    return sorted(lifted + whole)


def cheapest(graph, clusters, v, spent, best):
    """(cost, clusters) of the cheapest way to put v and the nodes behind it into clusters, or best if none is cheaper.

    The clusters are masks of the nodes ahead of v, and spent is what they cost.
    """
    if spent >= best[0]:
        return best
    if v == graph.nodes:
        return spent, clusters
    near = graph.masks[v] & full_mask(v)
    for at, one in enumerate(clusters + [0]):
        grown = clusters[:at] + [one | 1 << v] + clusters[at + 1:]
        best = cheapest(graph, grown, v + 1, spent + count_of(near ^ one), best)
    return best


def least_clusters(graph):
    """(cost, clusters) of a clustering with the least cost."""
    if graph.nodes > MOST_FOR_LEAST:
        raise TooLarge("the graph has more than 9 nodes")
    # No clustering costs more than one pair for each edge and each other pair of nodes.
    spent, masks = cheapest(graph, [], 0, 0, (graph.nodes ** 2 + 1, []))
    return spent, [nodes_of(one) for one in masks]
