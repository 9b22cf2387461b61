"""Colourful paths, separating families, longest paths and the kernels for paths."""

from math import comb

from cherrystone.checks import is_number
from cherrystone.covers import is_cover
from cherrystone.errors import BadArgument, TooLarge
from cherrystone.graphs import is_path
from cherrystone.masks import around, count_of, full_mask, mask_of, nodes_of
from cherrystone.separating import greedy_family, separated

MOST_NODES = 40
MOST_COLOURS = 7
MOST_SETS = 2000
MOST_FOR_LONGEST = 13


def need_colours(k):
    """Raises BadArgument for what is not a number of colours."""
    if not is_number(k, 1, MOST_COLOURS):
        raise BadArgument("the number of colours is not an integer from 1 to 7")


def need_bounds(n, k):
    """Raises BadArgument for what is not a number of nodes and a number of colours."""
    if not is_number(n, 0, MOST_NODES):
        raise BadArgument("the number of nodes is not an integer from 0 to 40")
    need_colours(k)


def need_few_sets(n, k):
    """Raises TooLarge if there are too many sets of k of n nodes."""
    if comb(n, k) > MOST_SETS:
        raise TooLarge("there are more than 2000 sets of so many nodes")


def are_colours(n, k, colouring):
    """Whether this is a list of n of the k colours."""
    if not isinstance(colouring, list) or len(colouring) != n:
        return False
    return all([is_number(colour, 0, k - 1) for colour in colouring])


def need_colouring(graph, colouring, k):
    """Raises BadArgument for what is not a colouring of the graph's nodes with k colours, or not a number of these."""
    need_colours(k)
    if not are_colours(graph.nodes, k, colouring):
        raise BadArgument("this is not a colouring of the graph's nodes")


def is_colouring(n, k, colouring):
    """Whether this is a colouring of n nodes with k colours."""
    need_bounds(n, k)
    return are_colours(n, k, colouring)


def is_separating(n, k, family):
    """Whether this is a separating family for n nodes and k colours."""
    need_bounds(n, k)
    need_few_sets(n, k)
    if not isinstance(family, list) or not all([are_colours(n, k, colouring) for colouring in family]):
        return False
    found = {}
    for colouring in family:
        for one in separated(colouring, k):
            found[one] = True
    return len(found) == comb(n, k)


def is_colourful(graph, colouring, k, nodes):
    """Whether this is a colourful path of the graph."""
    need_colouring(graph, colouring, k)
    if not is_path(graph, nodes) or len(nodes) != k:
        return False
    return len({colouring[v] for v in nodes}) == k


def groups_of(colouring, k):
    """For each colour the mask of its nodes."""
    return [mask_of([v for v, one in enumerate(colouring) if one == colour]) for colour in range(k)]


def last_nodes(graph, colouring, k):
    """For each set of colours, as a mask, the mask of the last nodes of the paths with each of them once."""
    groups = groups_of(colouring, k)
    ends = [0] * (1 << k)
    for colour in range(k):
        ends[1 << colour] = groups[colour]
    for met in range(1, 1 << k):
        near = around(graph.masks, ends[met])
        for colour in range(k):
            # A node of a colour that has not been met has not been met, either.
            if not met >> colour & 1:
                ends[met | 1 << colour] |= near & groups[colour]
    return ends


def found_path(graph, colouring, k):
    """A colourful path, or None; the arguments are right."""
    ends = last_nodes(graph, colouring, k)
    met = full_mask(k)
    choices = ends[met]
    if not choices:
        return None
    path = []
    while met:
        v = nodes_of(choices)[0]
        path.append(v)
        met -= 1 << colouring[v]
        choices = ends[met] & graph.masks[v]
    return path


def colourful_path(graph, colouring, k):
    """A colourful path, or None if there is none."""
    need_colouring(graph, colouring, k)
    return found_path(graph, colouring, k)


def colourful_count(graph, colouring, k):
    """The number of the colourful paths, from either end."""
    need_colouring(graph, colouring, k)
    ends = last_nodes(graph, colouring, k)
    # counts[met][v] is the number of the paths with the colours met, each once, whose last node is v.
    counts = [[0] * graph.nodes for _ in ends]
    for met in range(1, len(ends)):
        for v in nodes_of(ends[met]):
            rest = met - (1 << colouring[v])
            shorter = [counts[rest][u] for u in nodes_of(graph.masks[v] & ends[rest])]
            counts[met][v] = sum(shorter) if rest else 1
    return sum(counts[-1])


def separating_family(n, k):
    """A separating family for n nodes and k colours."""
    need_bounds(n, k)
    need_few_sets(n, k)
    return greedy_family(n, k)


def path_or_paper(graph, k):
    """("path", path) with a path with k nodes, or ("paper", family) if there is none."""
    family = separating_family(graph.nodes, k)
    for colouring in family:
        path = found_path(graph, colouring, k)
        if path is not None:
            return "path", path
    return "paper", family


def refuses_path(graph, k, family):
    """Whether this is a separating family that shows that no path has k nodes."""
    if not is_separating(graph.nodes, k, family):
        return False
    return all([found_path(graph, colouring, k) is None for colouring in family])


def path_through(masks, ends, met):
    """A path with exactly the nodes met; ends[met] is the mask of the last nodes of such paths."""
    path = []
    choices = ends[met]
    while met:
        v = nodes_of(choices)[0]
        path.append(v)
        met -= 1 << v
        choices = ends[met] & masks[v]
    return path


def longest_path(graph):
    """A path with the greatest number of nodes, the empty list without nodes."""
    if graph.nodes > MOST_FOR_LONGEST:
        raise TooLarge("the graph has more than 13 nodes")
    ends = [0] * (1 << graph.nodes)
    for v in range(graph.nodes):
        ends[1 << v] = 1 << v
    best = 0
    for met in range(1, len(ends)):
        if ends[met]:
            best = max(best, met, key=count_of)
            for v in nodes_of(full_mask(graph.nodes) & ~met):
                if graph.masks[v] & ends[met]:
                    ends[met | 1 << v] |= 1 << v
    return path_through(graph.masks, ends, best)


def first_of(mask, many):
    """The mask of so many of the least nodes of a mask, of all if there are fewer."""
    return mask_of(nodes_of(mask)[:many])


def path_kernel(graph, cover):
    """The kernel for paths: (graph, nodes)."""
    if not is_cover(graph, cover):
        raise BadArgument("this is not a cover of the graph")
    inside = mask_of(cover)
    outside = full_mask(graph.nodes) & ~inside
    enough = len(cover) + 1
    kept = inside | first_of(outside, 1)
    for v in cover:
        # For u = v the common neighbours are the neighbours of v.
        for u in cover:
            kept |= first_of(graph.masks[u] & graph.masks[v] & outside, enough)
    nodes = nodes_of(kept)
    return graph.induced(nodes), nodes


def lift_path(graph, cover, path):
    """The path of the graph that a path of the kernel's graph stands for."""
    small, nodes = path_kernel(graph, cover)
    if not is_path(small, path):
        raise BadArgument("this is not a path of the kernel's graph")
    return [nodes[v] for v in path]
