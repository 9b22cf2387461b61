"""Places that are to be cut apart: their strengths, how they grow, and least cutting sets."""

from cherrystone.checks import is_number
from cherrystone.choices import least_hitting_mask
from cherrystone.errors import BadArgument, TooLarge
from cherrystone.flows import link_up
from cherrystone.graphs import is_list, is_path
from cherrystone.masks import around, count_of, full_mask, mask_of, nodes_of, reached, short_path

MOST_CUT = 40
MOST_FREE = 12


def are_places(graph, places):
    """Whether these are places of the graph."""
    if not isinstance(places, list) or len(places) < 2:
        return False
    if not all([is_list(graph, place) and len(place) > 0 for place in places]):
        return False
    met = 0
    near = 0
    for place in places:
        mask = mask_of(place)
        # A node of this place that is near to an earlier one, or in it, stands in the way.
        if mask & (met | near):
            return False
        met |= mask
        near |= around(graph.masks, mask)
    return True


def need_places(graph, places):
    """Raises BadArgument for what are not places of the graph."""
    if not are_places(graph, places):
        raise BadArgument("these are not places of the graph")


def need_many(k):
    """Raises BadArgument for what is not a number of nodes of a cutting set."""
    if not is_number(k, 0, MOST_CUT):
        raise BadArgument("the parameter is not an integer from 0 to 40")


def free_mask(graph, places):
    """The mask of the nodes in no place."""
    met = [v for place in places for v in place]
    return full_mask(graph.nodes) & ~mask_of(met)


def borders(graph, places, index):
    """(border, far border) of the place with the index, as masks."""
    free = free_mask(graph, places)
    far = [v for at, place in enumerate(places) if at != index for v in place]
    return around(graph.masks, mask_of(places[index])) & free, around(graph.masks, mask_of(far)) & free


def is_cutting(graph, places, nodes):
    """Whether this is a cutting set of the places."""
    need_places(graph, places)
    if not is_list(graph, nodes) or mask_of(nodes) & ~free_mask(graph, places):
        return False
    left = full_mask(graph.nodes) & ~mask_of(nodes)
    met = 0
    for place in places:
        if met & mask_of(place):
            return False
        met |= reached(graph.masks, mask_of(place), left)
    return True


def ways_out(graph, places, index):
    """(ways, separator): greatest disjoint ways from the border to the far border, and the farthest separator."""
    free = free_mask(graph, places)
    # The induced graph of the free nodes, in the numbers of the graph: no way comes to its other nodes.
    masks = [mask & free for mask in graph.masks]
    border, far = borders(graph, places, index)
    return link_up(masks, border, far)


def strength(graph, places, index):
    """(ways, separator) of the place with this index; their number is the strength of the place."""
    need_places(graph, places)
    if not is_number(index, 0, len(places) - 1):
        raise BadArgument("this is not the index of a place")
    return ways_out(graph, places, index)


def grown(graph, places, index):
    """The place with the index, with all that can be reached from it ahead of its farthest separator."""
    _, separator = ways_out(graph, places, index)
    border, _ = borders(graph, places, index)
    found = reached(graph.masks, border, free_mask(graph, places) & ~mask_of(separator))
    return sorted(places[index] + nodes_of(found))


def grow(graph, places):
    """The places, each of which has grown once, one after the other."""
    need_places(graph, places)
    told = [list(place) for place in places]
    for index in range(len(told)):
        told[index] = grown(graph, told, index)
    return told


def missed_path(graph, places, chosen):
    """The mask of the free nodes of a path between two places without a chosen node, 0 if there is none."""
    left = free_mask(graph, places) & ~chosen
    for index in range(len(places)):
        border, far = borders(graph, places, index)
        path = short_path(graph.masks, border, far, left)
        if path is not None:
            return mask_of(path)
    return 0


def least_cut(graph, places):
    """A cutting set with the least number of nodes."""
    free = free_mask(graph, places)
    if count_of(free) > MOST_FREE:
        raise TooLarge("there are more than 12 free nodes")
    return nodes_of(least_hitting_mask(lambda chosen: missed_path(graph, places, chosen), 0, 0, free))


def cut(graph, places):
    """A cutting set with the least number of nodes."""
    need_places(graph, places)
    return least_cut(graph, places)


def cut_or_paper(graph, places, k):
    """("paper", index, ways) with the first place that is too strong, else ("cut", nodes), else ("none",)."""
    need_places(graph, places)
    need_many(k)
    for index in range(len(places)):
        ways, _ = ways_out(graph, places, index)
        if len(ways) > k:
            return "paper", index, ways[:k + 1]
    nodes = least_cut(graph, places)
    if len(nodes) > k:
        return ("none",)
    return "cut", nodes


def is_way_out(graph, free, border, far, way):
    """Whether this is a way from the border to the far border, of free nodes alone."""
    if not is_path(graph, way) or mask_of(way) & ~free:
        return False
    return mask_of(way) & border == 1 << way[0] and mask_of(way) & far == 1 << way[-1]


def refuses_cut(graph, places, k, index, ways):
    """Whether these are more than k disjoint ways out of the place with this index."""
    need_places(graph, places)
    need_many(k)
    if not is_number(index, 0, len(places) - 1) or not isinstance(ways, list) or len(ways) <= k:
        return False
    free = free_mask(graph, places)
    border, far = borders(graph, places, index)
    if not all([is_way_out(graph, free, border, far, way) for way in ways]):
        return False
    met = [v for way in ways for v in way]
    return len(set(met)) == len(met)
