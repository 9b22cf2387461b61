"""Greatest matchings, the barriers beside them, and the parts of a graph that they tell."""

from cherrystone.blossoms import augmenting_path, greatest_mates, mates_of, outer_nodes
from cherrystone.errors import BadArgument
from cherrystone.graphs import are_edges, components, need_list


def is_matching(graph, edges):
    """Whether this is a matching of the graph."""
    if not are_edges(graph.nodes, edges) or not all([graph.adjacent(u, v) for u, v in edges]):
        return False
    met = [v for pair in edges for v in pair]
    return len(set(met)) == len(met)


def deficiency(graph, nodes):
    """The number of odd components of the graph without the nodes, minus the number of the nodes."""
    need_list(graph, nodes)
    odd = [part for part in components(graph.without(nodes)) if len(part) % 2 == 1]
    return len(odd) - len(nodes)


def edges_of(mates):
    """The matching in which the nodes have these mates."""
    return [(u, v) for u, v in enumerate(mates) if v is not None and u < v]


def parts_beside(graph, mates):
    """(D, A, C), the parts of the graph, told by the mates of a greatest matching."""
    loose = outer_nodes(graph.masks, mates)
    near = sorted({v for u in loose for v in graph.neighbours(u) if v not in loose})
    return loose, near, [v for v in range(graph.nodes) if v not in loose and v not in near]


def greatest_matching(graph):
    """(matching, barrier): a greatest matching, and a barrier whose deficiency shows that it is."""
    mates = greatest_mates(graph.masks)
    _, near, _ = parts_beside(graph, mates)
    return edges_of(mates), near


def parts(graph):
    """(D, A, C): what some greatest matching leaves without an edge, the neighbours of this, the others."""
    return parts_beside(graph, greatest_mates(graph.masks))


def augment(graph, edges):
    """An augmenting path of a matching, or None if the matching is greatest."""
    if not is_matching(graph, edges):
        raise BadArgument("this is not a matching of the graph")
    return augmenting_path(graph.masks, mates_of(graph.nodes, edges))
