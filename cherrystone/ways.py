"""Ways between node lists, the separators beside them, and the connectivity."""

from cherrystone.errors import BadArgument
from cherrystone.flows import link_up
from cherrystone.graphs import is_list, is_path, need_list
from cherrystone.masks import count_of, full_mask, mask_of, reached


def disjoint_ways(graph, first, second):
    """(ways, separator): disjoint ways from first to second, and a separator of as many nodes."""
    need_list(graph, first)
    need_list(graph, second)
    return link_up(graph.masks, mask_of(first), mask_of(second))


def is_way(graph, first, second, way):
    """Whether this is a way from first to second."""
    if not is_path(graph, way):
        return False
    return [v for v in way if v in first] == way[:1] and [v for v in way if v in second] == way[-1:]


def are_ways(graph, first, second, ways):
    """Whether this is a list of disjoint ways from first to second."""
    need_list(graph, first)
    need_list(graph, second)
    if not isinstance(ways, list) or not all([is_way(graph, first, second, way) for way in ways]):
        return False
    met = [v for way in ways for v in way]
    return len(set(met)) == len(met)


def separates(graph, first, second, nodes):
    """Whether this is a separator of first and second."""
    need_list(graph, first)
    need_list(graph, second)
    if not is_list(graph, nodes):
        return False
    others = full_mask(graph.nodes) & ~mask_of(nodes)
    return reached(graph.masks, mask_of(first), others) & mask_of(second) == 0


def ways_between(graph, u, v):
    """(ways, separator): paths from u to v that share no other node, and as many nodes between."""
    if u == v or graph.adjacent(u, v):
        raise BadArgument("the two nodes are the same, or adjacent")
    # No way between the neighbours contains u or v: it would go on to, or come from, one more neighbour.
    ways, separator = disjoint_ways(graph, graph.neighbours(u), graph.neighbours(v))
    return [[u] + way + [v] for way in ways], separator


def farthest(graph, first, second):
    """The least separator of first and second that is farthest from first."""
    _, separator = disjoint_ways(graph, first, second)
    return separator


def narrowed(graph, u, best):
    """A separator of u and a greater node that has fewer nodes than best, or best."""
    for v in range(u + 1, graph.nodes):
        # All common neighbours are in each separator of the two nodes.
        common = count_of(graph.masks[u] & graph.masks[v])
        if not graph.adjacent(u, v) and common < len(best):
            _, separator = ways_between(graph, u, v)
            best = min(best, separator, key=len)
    return best


def connectivity(graph):
    """(number, nodes): the connectivity, and so many nodes without which the graph is not connected."""
    if graph.nodes < 2:
        raise BadArgument("the graph has fewer than two nodes")
    degrees = [graph.degree(v) for v in range(graph.nodes)]
    least = min(degrees)
    if least == graph.nodes - 1:
        return least, None
    best = graph.neighbours(degrees.index(least))
    u = 0
    # If fewer nodes than best are enough, one of the first len(best) nodes is not among them.
    while u < len(best):
        best = narrowed(graph, u, best)
        u += 1
    return len(best), best
