"""Decompositions and their widths, refuges from searchers, and the kernels for widths."""

from cherrystone.checks import is_number
from cherrystone.covers import is_cover
from cherrystone.errors import BadArgument, TooLarge
from cherrystone.graphs import are_edges, are_nodes, is_list
from cherrystone.masks import around, count_of, full_mask, mask_of, nodes_of, pieces, reached
from cherrystone.shrinking import Rest

MOST_WIDTH = 9
MOST_FOR_BEST = 10
MOST_FOR_REFUGE = 8


def need_width(w):
    """Raises BadArgument for what is not a width, or a number of searchers."""
    if not is_number(w, 0, MOST_WIDTH):
        raise BadArgument("the parameter is not an integer from 0 to 9")


def is_tree(many, links):
    """Whether these links join so many bags to a tree."""
    if not are_edges(many, links) or len(links) != many - 1:
        return False
    near = [0] * many
    for i, j in links:
        near[i] |= 1 << j
        near[j] |= 1 << i
    return reached(near, 1, full_mask(many)) == full_mask(many)


def holds_together(graph, bags, links):
    """Whether each node and each edge is in a bag, and the bags of each node are joined; the links are a tree's."""
    masks = [mask_of(bag) for bag in bags]
    shared = [masks[i] & masks[j] for i, j in links]
    for v in range(graph.nodes):
        with_v = [mask for mask in masks if mask >> v & 1]
        beside = 0
        for mask in with_v:
            beside |= mask
        wanted = graph.masks[v] | 1 << v
        # Of a tree, some bags are joined exactly if there is one link fewer between them.
        joined = len([mask for mask in shared if mask >> v & 1]) == len(with_v) - 1
        if wanted & ~beside or not joined:
            return False
    return True


def is_decomposition(graph, decomposition):
    """Whether this is a decomposition of the graph."""
    if not isinstance(decomposition, tuple) or len(decomposition) != 2:
        return False
    bags, links = decomposition
    if not isinstance(bags, list) or not bags or not all([is_list(graph, bag) for bag in bags]):
        return False
    return is_tree(len(bags), links) and holds_together(graph, bags, links)


def need_decomposition(graph, decomposition):
    """Raises BadArgument for what is not a decomposition of the graph."""
    if not is_decomposition(graph, decomposition):
        raise BadArgument("this is not a decomposition of the graph")


def width_of(graph, decomposition):
    """The width of a decomposition of the graph."""
    need_decomposition(graph, decomposition)
    bags, _ = decomposition
    return max([len(bag) for bag in bags]) - 1


def eliminated(graph, order):
    """The decomposition that the order gives when it is eliminated."""
    if not order:
        return [[]], []
    place = {v: at for at, v in enumerate(order)}
    near = list(graph.masks)
    left = full_mask(graph.nodes)
    bags, links = [], []
    for at, v in enumerate(order):
        left -= 1 << v
        beside = near[v] & left
        bags.append(nodes_of(beside | 1 << v))
        for u in nodes_of(beside):
            near[u] |= beside - (1 << u)
        if left:
            links.append((at, min([place[u] for u in nodes_of(beside)], default=at + 1)))
    return bags, links


def eliminate(graph, order):
    """The decomposition that an order of the graph gives when it is eliminated."""
    if not are_nodes(graph, order) or sorted(order) != list(range(graph.nodes)):
        raise BadArgument("this is not an order of the graph")
    return eliminated(graph, order)


def beside_taken(masks, taken, v):
    """The mask of the neighbours that v has when all others of the nodes taken have been eliminated."""
    return around(masks, reached(masks, 1 << v, taken)) & ~taken


def best_order(graph):
    """An order whose greatest bag is as small as possible."""
    # most[taken] is the least number of neighbours that all nodes taken have at most, in some order of them, and
    # last[taken] is the last node of such an order.
    most = [0] * (1 << graph.nodes)
    last = [0] * (1 << graph.nodes)
    for taken in range(1, len(most)):
        options = []
        for v in nodes_of(taken):
            beside = beside_taken(graph.masks, taken, v)
            options.append((max(most[taken - (1 << v)], count_of(beside)), v))
        most[taken], last[taken] = min(options)
    order = []
    taken = full_mask(graph.nodes)
    while taken:
        order.append(last[taken])
        taken -= 1 << last[taken]
    return order[::-1]


def best_decomposition(graph):
    """A decomposition with the least width."""
    if graph.nodes > MOST_FOR_BEST:
        raise TooLarge("the graph has more than 10 nodes")
    return eliminated(graph, best_order(graph))


def is_safe(graph, k, held, searched, part):
    """Whether a position with these masks can be in a refuge with the others that are held.

    held gives, for the mask of the nodes searched, the masks of the parts of the positions.
    """
    left = full_mask(graph.nodes) & ~searched
    for v in nodes_of(searched):
        wider = reached(graph.masks, part, left | 1 << v)
        if wider not in held.get(searched - (1 << v), []):
            return False
    if count_of(searched) == k:
        return True
    for v in nodes_of(left):
        narrower = [other for other in held.get(searched | 1 << v, []) if not other & ~part]
        if not narrower:
            return False
    return True


def is_position(graph, k, value):
    """Whether this is a position for k searchers."""
    if not isinstance(value, tuple) or len(value) != 2 or not all([isinstance(nodes, tuple) for nodes in value]):
        return False
    searched, part = [list(nodes) for nodes in value]
    if not is_list(graph, searched) or len(searched) > k or not is_list(graph, part) or not part:
        return False
    left = full_mask(graph.nodes) & ~mask_of(searched)
    return reached(graph.masks, 1 << part[0], left) == mask_of(part)


def is_refuge(graph, k, positions):
    """Whether this is a refuge from k searchers."""
    need_width(k)
    if not isinstance(positions, list) or not all([is_position(graph, k, value) for value in positions]):
        return False
    if not positions or not all([one < two for one, two in zip(positions, positions[1:])]):
        return False
    masks = [(mask_of(searched), mask_of(part)) for searched, part in positions]
    held = {}
    for searched, part in masks:
        held.setdefault(searched, []).append(part)
    return all([is_safe(graph, k, held, searched, part) for searched, part in masks])


def all_positions(graph, k):
    """For each mask of at most k nodes the masks of the components without them."""
    everywhere = full_mask(graph.nodes)
    few = [searched for searched in range(everywhere + 1) if count_of(searched) <= k]
    return {searched: pieces(graph.masks, everywhere - searched) for searched in few}


def safe_ones(graph, k, held):
    """The positions of those held, told as for is_safe, that can be in a refuge with the others."""
    safe = {}
    for searched, found in held.items():
        safe[searched] = [part for part in found if is_safe(graph, k, held, searched, part)]
    return safe


def greatest_refuge(graph, k):
    """The refuge from k searchers with all positions that are in some refuge, or None."""
    need_width(k)
    if graph.nodes > MOST_FOR_REFUGE:
        raise TooLarge("the graph has more than 8 nodes")
    held = all_positions(graph, k)
    safe = safe_ones(graph, k, held)
    while safe != held:
        held = safe
        safe = safe_ones(graph, k, held)
    positions = [(tuple(nodes_of(searched)), tuple(nodes_of(part))) for searched in held for part in held[searched]]
    return sorted(positions) if positions else None


def is_tight(rest, v):
    """Whether the neighbours of a node are all adjacent to each other."""
    return all([rest.near[v] & ~rest.near[u] == 1 << u for u in nodes_of(rest.near[v])])


def can_join(rest, w, u, v):
    """Whether the nodes are not adjacent and have more than w common neighbours."""
    return not rest.near[u] >> v & 1 and count_of(rest.near[u] & rest.near[v]) > w


def can_drop(rest, w, v):
    """Whether the node has at most w neighbours, which are all adjacent to each other."""
    return count_of(rest.near[v]) <= w and is_tight(rest, v)


def join_all(rest, cover, w):
    """Joins nodes of the cover where the rule allows it; returns the steps."""
    steps = []
    for v in cover:
        for u in cover:
            if u < v and can_join(rest, w, u, v):
                rest.connect(u, v)
                steps.append(("join", u, v))
    return steps


def drop_all(rest, cover, w):
    """Drops nodes outside of the cover where the rule allows it; returns the steps."""
    steps = []
    nodes = nodes_of(rest.left & ~mask_of(cover))
    for v in nodes:
        if can_drop(rest, w, v):
            steps.append(("drop", v, tuple(nodes_of(rest.near[v]))))
            rest.drop(v)
    return steps


def shrink(rest, cover, w):
    """Applies both rules until none applies; returns the trace."""
    trace = []
    steps = join_all(rest, cover, w) + drop_all(rest, cover, w)
    while steps:
        trace.extend(steps)
        steps = join_all(rest, cover, w) + drop_all(rest, cover, w)
    return trace


def width_kernel(graph, cover, w):
    """((graph, nodes, trace), None) with the kernel for the width w, or (None, (trace, clique)) if there is none."""
    if not is_cover(graph, cover):
        raise BadArgument("this is not a cover of the graph")
    need_width(w)
    rest = Rest(graph)
    trace = shrink(rest, cover, w)
    for v in nodes_of(rest.left & ~mask_of(cover)):
        # With at most w neighbours the node would have been dropped.
        if is_tight(rest, v):
            return None, (trace, sorted([v] + nodes_of(rest.near[v])[:w + 1]))
    small, nodes = rest.numbered()
    return (small, nodes, trace), None


def lift_decomposition(graph, kernel, decomposition):
    """The decomposition of the graph that a decomposition of the kernel's graph stands for."""
    small, nodes, trace = kernel
    need_decomposition(small, decomposition)
    bags, links = decomposition
    lifted = [[nodes[v] for v in bag] for bag in bags]
    more = []
    for word, v, beside in reversed(trace):
        if word == "drop":
            wanted = mask_of(beside)
            first = [at for at, bag in enumerate(lifted) if not wanted & ~mask_of(bag)][0]
            more.append((first, len(lifted)))
            lifted.append(sorted([v, *beside]))
    return lifted, sorted(links + more)


def is_left(rest, v):
    """Whether this is a node that is left."""
    return is_number(v, 0, len(rest.near) - 1) and rest.left >> v & 1 == 1


def joins(rest, w, u, v):
    """Joins the two nodes, if that is a step; tells whether it was one."""
    if not is_left(rest, v) or u >= v or not can_join(rest, w, u, v):
        return False
    rest.connect(u, v)
    return True


def drops(rest, w, v, beside):
    """Drops the node with these neighbours, if that is a step; tells whether it was one."""
    if not isinstance(beside, tuple) or not all([is_left(rest, u) for u in beside]):
        return False
    if list(beside) != nodes_of(rest.near[v]) or not can_drop(rest, w, v):
        return False
    rest.drop(v)
    return True


def performs(rest, w, step):
    """Performs a step of a trace, if it is one; tells whether it was one."""
    if not isinstance(step, tuple) or len(step) != 3:
        return False
    word, v, more = step
    if not isinstance(word, str) or not is_left(rest, v):
        return False
    if word == "join":
        return joins(rest, w, v, more)
    return word == "drop" and drops(rest, w, v, more)


def refuses_width(graph, w, trace, clique):
    """Whether the trace leads to a clique that shows that the width is more than w."""
    need_width(w)
    if not isinstance(trace, list) or not is_list(graph, clique) or len(clique) != w + 2:
        return False
    rest = Rest(graph)
    for step in trace:
        if not performs(rest, w, step):
            return False
    wanted = mask_of(clique)
    return all([is_left(rest, v) and wanted & ~rest.near[v] == 1 << v for v in clique])
