"""How one hard question is told as another one, and how solutions are led from one to the other."""

from cherrystone.checks import is_number
from cherrystone.covers import is_cover
from cherrystone.cycles import meets_cycles
from cherrystone.errors import BadArgument, TooLarge
from cherrystone.graphs import is_list, make_graph, need_list
from cherrystone.hitting import hits
from cherrystone.masks import around, full_mask, mask_of

MOST_NODES = 40
MOST_COLOURS = 8


def is_independent(graph, nodes):
    """Whether this is an independent node list of the graph."""
    return is_list(graph, nodes) and around(graph.masks, mask_of(nodes)) & mask_of(nodes) == 0


def is_clique(graph, nodes):
    """Whether this is a node list of the graph, and a clique."""
    if not is_list(graph, nodes):
        return False
    mask = mask_of(nodes)
    return all([mask & ~graph.masks[v] == 1 << v for v in nodes])


def is_dominating(graph, nodes):
    """Whether this is a dominating list of the graph."""
    if not is_list(graph, nodes):
        return False
    return around(graph.masks, mask_of(nodes)) | mask_of(nodes) == full_mask(graph.nodes)


def other_nodes(graph, nodes):
    """The nodes of the graph that are not in the list."""
    need_list(graph, nodes)
    return [v for v in range(graph.nodes) if v not in nodes]


def need_copies(k):
    """Raises BadArgument for what is not a number of copies."""
    if not is_number(k, 1, MOST_COLOURS):
        raise BadArgument("the number of copies is not an integer from 1 to 8")


def need_room(many):
    """Raises TooLarge for more nodes than a graph has."""
    if many > MOST_NODES:
        raise TooLarge("the graph that this makes has more than 40 nodes")


def coloured_copies(graph, k):
    """The coloured copies of the graph."""
    need_copies(k)
    need_room(graph.nodes * k)
    copies = [(i, j) for i in range(k) for j in range(k) if i != j]
    return make_graph(graph.nodes * k, [(u * k + i, v * k + j) for u, v in graph.edges for i, j in copies])


def is_coloured_clique(graph, k, nodes):
    """Whether this is a coloured clique of the coloured copies of the graph."""
    copies = coloured_copies(graph, k)
    # Copies of one colour are not adjacent, so k nodes of a clique have all colours.
    return is_clique(copies, nodes) and len(nodes) == k


def to_copies(graph, k, clique):
    """The coloured clique of the copies that a clique with k nodes stands for."""
    need_copies(k)
    if not is_clique(graph, clique) or len(clique) != k:
        raise BadArgument("this is not a clique with so many nodes")
    need_room(graph.nodes * k)
    return [v * k + i for i, v in enumerate(clique)]


def from_copies(graph, k, nodes):
    """The clique of the graph that a coloured clique of its copies stands for."""
    if not is_coloured_clique(graph, k, nodes):
        raise BadArgument("this is not a coloured clique of the copies")
    return [v // k for v in nodes]


def need_family(family):
    """Raises BadArgument for a family that has no domination graph."""
    if family.size == 0 or () in family.sets:
        raise BadArgument("the family has no element, or the empty set")


def domination_graph(family):
    """The domination graph of the family."""
    need_family(family)
    many = family.size + len(family.sets)
    need_room(many)
    pairs = [(u, v) for v in range(family.size) for u in range(v)]
    for at, one in enumerate(family.sets):
        pairs.extend([(v, family.size + at) for v in one])
    return make_graph(many, pairs)


def to_domination(family, chosen):
    """The dominating list of the domination graph that a hitting set stands for."""
    need_family(family)
    if not hits(family, chosen) or not chosen:
        raise BadArgument("this is not a hitting set with an element")
    need_room(family.size + len(family.sets))
    return list(chosen)


def from_domination(family, nodes):
    """The hitting set that a dominating list of the domination graph stands for."""
    if not is_dominating(domination_graph(family), nodes):
        raise BadArgument("this is not a dominating list of the domination graph")
    return sorted({v if v < family.size else family.sets[v - family.size][0] for v in nodes})


def cycle_graph(graph):
    """The cycle graph of the graph."""
    many = graph.nodes + graph.many
    need_room(many)
    pairs = list(graph.edges)
    for at, pair in enumerate(graph.edges):
        pairs.extend([(v, graph.nodes + at) for v in pair])
    return make_graph(many, pairs)


def to_cycles(graph, nodes):
    """The meeting set of the cycle graph that a cover of the graph stands for."""
    if not is_cover(graph, nodes):
        raise BadArgument("this is not a cover of the graph")
    need_room(graph.nodes + graph.many)
    return list(nodes)


def from_cycles(graph, nodes):
    """The cover of the graph that a meeting set of its cycle graph stands for."""
    if not meets_cycles(cycle_graph(graph), nodes):
        raise BadArgument("this is not a meeting set of the cycle graph")
    return sorted({v if v < graph.nodes else graph.edges[v - graph.nodes][0] for v in nodes})
