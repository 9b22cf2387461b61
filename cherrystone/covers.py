"""Covers, half covers and the kernels and crowns that they tell."""

from cherrystone.checks import is_number
from cherrystone.choices import least_hitting_mask
from cherrystone.errors import BadArgument, TooLarge
from cherrystone.flows import link_up
from cherrystone.graphs import is_list
from cherrystone.masks import count_of, full_mask, nodes_of
from cherrystone.matching import is_matching
from cherrystone.ways import disjoint_ways

MOST_COVERED = 40
MOST_FOR_LEAST = 14


def is_cover(graph, nodes):
    """Whether this is a cover of the graph."""
    return is_list(graph, nodes) and all([u in nodes or v in nodes for u, v in graph.edges])


def are_numbers(values, many):
    """Whether this is a list of so many numbers 0, 1 or 2."""
    if not isinstance(values, list) or len(values) != many:
        return False
    return all([is_number(value, 0, 2) for value in values])


def is_half_cover(graph, cover):
    """Whether this is a half cover of the graph."""
    return are_numbers(cover, graph.nodes) and all([cover[u] + cover[v] >= 2 for u, v in graph.edges])


def is_half_matching(graph, matching):
    """Whether this is a half matching of the graph."""
    if not are_numbers(matching, graph.many):
        return False
    sums = [0] * graph.nodes
    for pair, worth in zip(graph.edges, matching):
        for v in pair:
            sums[v] += worth
    return all([total <= 2 for total in sums])


def are_halves(graph, cover, matching):
    """Whether these are a half cover and a half matching with equal sums."""
    if not is_half_cover(graph, cover) or not is_half_matching(graph, matching):
        return False
    return sum(cover) == sum(matching)


def is_crown(graph, free, head, matching):
    """Whether this is a crown of the graph."""
    if not is_list(graph, free) or not free or not is_list(graph, head) or not is_matching(graph, matching):
        return False
    # A node of free with a neighbour in free would stand in this list, and not in the head.
    if head != sorted({v for u in free for v in graph.neighbours(u)}) or [v for v in free if v in head]:
        return False
    # All neighbours of free are in head, so an edge with a node in free has the other one there.
    return all([u in free or v in free for u, v in matching]) and len(matching) == len(head)


def halves(graph):
    """(half cover, half matching) with equal sums."""
    many = graph.nodes
    # Each node v stands on the left as v and on the right as v + many; ways from left to right are single edges.
    masks = [mask << many for mask in graph.masks] + list(graph.masks)
    ways, separator = link_up(masks, full_mask(many), full_mask(many) << many)
    cover = [0] * many
    for v in separator:
        cover[v % many] += 1
    place = {pair: k for k, pair in enumerate(graph.edges)}
    matching = [0] * graph.many
    for u, v in ways:
        matching[place[min(u, v - many), max(u, v - many)]] += 1
    return cover, matching


def need_parameter(k):
    """Raises BadArgument for what is not a parameter of covers."""
    if not is_number(k, 0, MOST_COVERED):
        raise BadArgument("the parameter is not an integer from 0 to 40")


def nodes_with(cover, worth):
    """The nodes with this number in a half cover."""
    return [v for v, number in enumerate(cover) if number == worth]


def cover_kernel(graph, k):
    """The kernel for covers with k nodes: (graph, nodes, forced, rest), or None."""
    need_parameter(k)
    cover, _ = halves(graph)
    if sum(cover) > 2 * k:
        return None
    nodes, forced = nodes_with(cover, 1), nodes_with(cover, 2)
    return graph.induced(nodes), nodes, forced, k - len(forced)


def refuses_cover(graph, k, matching):
    """Whether this is a half matching that shows that no cover has at most k nodes."""
    need_parameter(k)
    return is_half_matching(graph, matching) and sum(matching) > 2 * k


def lift_cover(graph, kernel, nodes):
    """The cover of the graph that a cover of the kernel's graph stands for."""
    small, kept, forced, _ = kernel
    if not is_cover(small, nodes):
        raise BadArgument("this is not a cover of the kernel's graph")
    return sorted(forced + [kept[v] for v in nodes])


def bare_edge(graph, chosen):
    """The mask of an edge without a chosen node, 0 if there is none."""
    left = full_mask(graph.nodes) & ~chosen
    near = [graph.masks[v] & left for v in nodes_of(left)]
    most = max(near, key=count_of, default=0)
    if not most:
        return 0
    return 1 << nodes_of(left)[near.index(most)] | most & -most


def least_cover(graph):
    """A cover with as few nodes as possible."""
    if graph.nodes > MOST_FOR_LEAST:
        raise TooLarge("the graph has more than 14 nodes")
    best = full_mask(graph.nodes)
    return nodes_of(least_hitting_mask(lambda chosen: bare_edge(graph, chosen), 0, 0, best))


def halves_without(graph, v):
    """The least half cover of those in which v has the number 0."""
    near = graph.neighbours(v)
    others = [u for u in range(graph.nodes) if u != v and u not in near]
    part, _ = halves(graph.induced(others))
    cover = [0] * graph.nodes
    for u in near:
        cover[u] = 2
    for u, number in zip(others, part):
        cover[u] = number
    return cover


def crown(graph):
    """A crown, or None if there is none."""
    least, _ = halves(graph)
    for v in range(graph.nodes):
        cover = halves_without(graph, v)
        if sum(cover) == sum(least):
            # As the sum is least, all nodes with 2 can be matched with neighbours that have 0.
            free, head = nodes_with(cover, 0), nodes_with(cover, 2)
            ways, _ = disjoint_ways(graph, free, head)
            return free, head, sorted([(min(way), max(way)) for way in ways])
    return None
