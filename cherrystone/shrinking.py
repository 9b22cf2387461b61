"""What is left of a graph while nodes that leave no choice about cycles are removed."""

from cherrystone.graphs import make_graph
from cherrystone.masks import count_of, full_mask, nodes_of


class Rest:
    """What is left of a graph, and which removed nodes each of its edges stands for."""

    def __init__(self, graph):
        self.left = full_mask(graph.nodes)
        # The neighbours of each node, by masks; removed nodes have none.
        self.near = list(graph.masks)
        # The removed nodes between two nodes that an added edge joins, in the order from the first one.
        self.inner = {}

    def drop(self, v):
        """Removes a node."""
        beside = nodes_of(self.near[v])
        for u in beside:
            self.near[u] -= 1 << v
        self.near[v] = 0
        self.left -= 1 << v

    def connect(self, u, v):
        """Adds an edge between two nodes."""
        self.near[u] |= 1 << v
        self.near[v] |= 1 << u

    def bypass(self, v, a, b):
        """Removes a node with the two neighbours a and b, which are not adjacent, and joins these."""
        path = self.inner.get((a, v), []) + [v] + self.inner.get((v, b), [])
        self.drop(v)
        self.connect(a, b)
        self.inner[a, b] = path
        self.inner[b, a] = path[::-1]

    def simplify(self, v):
        """Removes or bypasses a node, if one of the first two rules applies to it; tells whether one did."""
        near = nodes_of(self.near[v])
        if len(near) < 2:
            self.drop(v)
            return True
        if len(near) == 2 and not self.near[near[0]] >> near[1] & 1:
            self.bypass(v, near[0], near[1])
            return True
        return False

    def tidy(self):
        """Applies the first two rules until neither applies."""
        busy = True
        while busy:
            busy = False
            nodes = nodes_of(self.left)
            for v in nodes:
                if self.simplify(v):
                    busy = True

    def tip(self):
        """The common neighbour of two adjacent nodes with exactly two neighbours each, or None."""
        pairs = [v for v in nodes_of(self.left) if count_of(self.near[v]) == 2]
        for v in pairs:
            for u in pairs:
                common = self.near[u] & self.near[v]
                if self.near[u] >> v & 1 and common:
                    return nodes_of(common)[0]
        return None

    def numbered(self):
        """(graph, nodes): what is left, numbered anew, and the first numbers of its nodes."""
        nodes = nodes_of(self.left)
        place = {v: k for k, v in enumerate(nodes)}
        pairs = [(place[u], place[v]) for u in nodes for v in nodes_of(self.near[u])]
        return make_graph(len(nodes), pairs), nodes

    def widened(self, cycle):
        """The cycle of the first graph that a cycle of what is left stands for."""
        full = []
        for u, v in zip(cycle, cycle[1:] + cycle[:1]):
            full.append(u)
            full.extend(self.inner.get((u, v), []))
        return full
