"""Graphs: their textual form, their paths and cycles, and the plain questions on them."""

from cherrystone.checks import is_number, is_pair
from cherrystone.errors import BadArgument, BadGraph, BadText
from cherrystone.masks import count_of, full_mask, mask_of, nodes_of, pieces, short_path

MOST_NODES = 40


class Graph:
    """A graph with the nodes 0 to nodes - 1 and an ascending list of edges."""

    def __init__(self, nodes, edges):
        if not is_number(nodes, 0, MOST_NODES):
            raise BadGraph("the number of nodes is not an integer from 0 to 40")
        if not are_edges(nodes, edges):
            raise BadGraph("the edges are not an ascending list of pairs of nodes, lesser ones first")
        self.nodes = nodes
        self.edges = list(edges)
        # masks[v] is the mask of the neighbours of v.
        self.masks = [0] * nodes
        for u, v in edges:
            self.masks[u] |= 1 << v
            self.masks[v] |= 1 << u

    def __eq__(self, other):
        return isinstance(other, Graph) and self.nodes == other.nodes and self.edges == other.edges

    @property
    def many(self):
        """The number of edges."""
        return len(self.edges)

    def neighbours(self, v):
        """The neighbours of a node, as an ascending list."""
        need_node(self, v)
        return nodes_of(self.masks[v])

    def degree(self, v):
        """The number of neighbours of a node."""
        need_node(self, v)
        return count_of(self.masks[v])

    def adjacent(self, u, v):
        """Whether two nodes are the nodes of an edge."""
        need_node(self, u)
        need_node(self, v)
        return self.masks[u] >> v & 1 == 1

    def induced(self, nodes):
        """The graph of these nodes, numbered anew, and of all edges between them."""
        need_list(self, nodes)
        place = {v: k for k, v in enumerate(nodes)}
        kept = [(u, v) for u, v in self.edges if u in place and v in place]
        return Graph(len(nodes), [(place[u], place[v]) for u, v in kept])

    def without(self, nodes):
        """The induced graph of all other nodes."""
        need_list(self, nodes)
        return self.induced([v for v in range(self.nodes) if v not in nodes])

    def complement(self):
        """The graph whose edges are the pairs of nodes that are not adjacent in this one."""
        pairs = [(u, v) for v in range(self.nodes) for u in range(v)]
        return make_graph(self.nodes, [(u, v) for u, v in pairs if not self.masks[u] >> v & 1])


def are_edges(many, edges):
    """Whether this is an ascending list of different pairs of so many nodes, lesser ones first."""
    if not isinstance(edges, list) or not all([is_pair(pair, many) for pair in edges]):
        return False
    return all([u < v for u, v in edges]) and all([one < two for one, two in zip(edges, edges[1:])])


def make_graph(nodes, pairs):
    """The graph in which two nodes are adjacent if they stand in the pairs, in either order."""
    if not is_number(nodes, 0, MOST_NODES):
        raise BadGraph("the number of nodes is not an integer from 0 to 40")
    if not isinstance(pairs, list) or not all([is_pair(pair, nodes) for pair in pairs]):
        raise BadGraph("the pairs are not a list of tuples of two different nodes")
    return Graph(nodes, sorted({(min(u, v), max(u, v)) for u, v in pairs}))


def need_node(graph, v):
    """Raises BadArgument for what is not a node of the graph."""
    if not is_number(v, 0, graph.nodes - 1):
        raise BadArgument("this is not a node of the graph")


def need_list(graph, nodes):
    """Raises BadArgument for what is not a node list of the graph."""
    if not is_list(graph, nodes):
        raise BadArgument("this is not a node list of the graph")


def are_nodes(graph, nodes):
    """Whether this is a list of nodes of the graph, in any order."""
    if not isinstance(nodes, list):
        return False
    return all([is_number(v, 0, graph.nodes - 1) for v in nodes])


def is_list(graph, nodes):
    """Whether this is a node list of the graph."""
    return are_nodes(graph, nodes) and all([u < v for u, v in zip(nodes, nodes[1:])])


def is_path(graph, nodes):
    """Whether this is a path of the graph."""
    if not are_nodes(graph, nodes) or not nodes or len(set(nodes)) < len(nodes):
        return False
    return all([graph.adjacent(u, v) for u, v in zip(nodes, nodes[1:])])


def is_cycle(graph, nodes):
    """Whether this is a cycle of the graph."""
    return is_path(graph, nodes) and len(nodes) >= 3 and graph.adjacent(nodes[0], nodes[-1])


def components(graph):
    """The components as ascending lists, in the order of their first nodes."""
    return [nodes_of(part) for part in pieces(graph.masks, full_mask(graph.nodes))]


def distances(graph, v):
    """The distance of each node from v, None for a node without a path to it."""
    need_node(graph, v)
    found = [None] * graph.nodes
    found[v] = 0
    queue = [v]
    at = 0
    while at < len(queue):
        u = queue[at]
        for w in graph.neighbours(u):
            if found[w] is None:
                found[w] = found[u] + 1
                queue.append(w)
        at += 1
    return found


def cycle_through(graph, u, v):
    """A shortest cycle through the edge of u and v, or None."""
    others = full_mask(graph.nodes) - (1 << u)
    path = short_path(graph.masks, graph.masks[u] - (1 << v), 1 << v, others)
    return None if path is None else [u] + path


def shortest_cycle(graph):
    """A cycle with the least number of nodes, or None."""
    best = None
    for u, v in graph.edges:
        cycle = cycle_through(graph, u, v)
        if cycle is not None and (best is None or len(cycle) < len(best)):
            best = cycle
    return best


def depths_of(graph):
    """The distance of each node from the least node of its component."""
    depths = [0] * graph.nodes
    for part in components(graph):
        found = distances(graph, part[0])
        for v in part:
            depths[v] = found[v]
    return depths


def nearer(graph, depths, v):
    """The first neighbour of v that is nearer to the least node of the component."""
    return [u for u in graph.neighbours(v) if depths[u] < depths[v]][0]


def joined_cycle(graph, depths, u, v):
    """The cycle of the edge of u and v, which have one depth, and of their ways to a common node."""
    left, right = [u], [v]
    while left[-1] != right[-1]:
        left.append(nearer(graph, depths, left[-1]))
        right.append(nearer(graph, depths, right[-1]))
    return left + right[-2::-1]


def two_colours(graph):
    """(colours, None) if the graph has two colours, otherwise (None, a cycle with an odd number of nodes)."""
    depths = depths_of(graph)
    for u, v in graph.edges:
        # Depths of adjacent nodes differ by at most 1, so without a difference in colour they are equal.
        if depths[u] == depths[v]:
            return None, joined_cycle(graph, depths, u, v)
    return [depth % 2 for depth in depths], None


def degeneracy(graph):
    """(d, order): the degeneracy, and an order in which each node has at most d neighbours behind it."""
    worst = 0
    order = []
    left = list(range(graph.nodes))
    while left:
        mask = mask_of(left)
        degrees = [count_of(graph.masks[v] & mask) for v in left]
        least = min(degrees)
        worst = max(worst, least)
        order.append(left.pop(degrees.index(least)))
    return worst, order


def format_graph(graph):
    """The textual form of a graph."""
    return f"{graph.nodes};" + "".join([f" {u}-{v}" for u, v in graph.edges])


def parse_number(word):
    """The number of at most two digits that the word tells."""
    # Other digits than 0 to 9 are decimal for Python, too; longer words are no nodes anyway.
    if not word.isascii() or not word.isdigit() or len(word) > 2:
        raise BadText("this is not a number of a graph")
    return int(word)


def parse_graph(text):
    """The graph of a textual form; BadText if it is none."""
    if not isinstance(text, str):
        raise BadText("this is not the textual form of a graph")
    words = text.split(" ")
    edges = []
    for word in words[1:]:
        low, _, high = word.partition("-")
        edges.append((parse_number(low), parse_number(high)))
    try:
        graph = Graph(parse_number(words[0].removesuffix(";")), edges)
    except BadGraph:
        raise BadText("the numbers of the text are not those of a graph") from None
    # What was read loosely above, such as leading zeros, shows in a difference here.
    if format_graph(graph) != text:
        raise BadText("this is not exactly the textual form of a graph")
    return graph
