"""Augmenting paths of matchings, with Edmonds' blossoms.

A matching is kept as a list of mates: mates[v] is the other node of the edge of v, or None.
"""

from cherrystone.masks import nodes_of


class Tree:
    """The paths from a root without a mate, whose edges are by turns outside of the matching and in it.

    A node is outer if such a path with an even number of edges leads to it. An edge between two outer nodes
    closes a blossom: all its nodes are outer, and are told by the base through which paths enter the blossom.
    """

    def __init__(self, masks, mates, root):
        self.masks = masks
        self.mates = mates
        self.root = root
        self.outer = [root]
        self.bases = list(range(len(masks)))
        # The node before a node on its path from the root, behind the edge that is not in the matching.
        self.back = [None] * len(masks)

    def line(self, v):
        """The bases on the way from the outer node v to the root."""
        bases = [self.bases[v]]
        while self.mates[bases[-1]] is not None:
            bases.append(self.bases[self.back[self.mates[bases[-1]]]])
        return bases

    def turn_back(self, v, child, base):
        """Lets paths go down from the base to v, too, and come there from child; tells the bases passed."""
        passed = []
        while self.bases[v] != base:
            passed.append(self.bases[v])
            passed.append(self.bases[self.mates[v]])
            self.back[v] = child
            child = self.mates[v]
            v = self.back[child]
        return passed

    def shrink(self, u, v):
        """Makes one blossom of the cycle that the edge of the outer nodes u and v closes."""
        met = self.line(v)
        base = [w for w in self.line(u) if w in met][0]
        passed = self.turn_back(u, v, base) + self.turn_back(v, u, base)
        for w in range(len(self.bases)):
            if self.bases[w] in passed:
                self.bases[w] = base
                if w not in self.outer:
                    self.outer.append(w)

    def enter(self, u, v):
        """Goes from the outer node u to its neighbour v; tells whether v is a second node without a mate."""
        if v in self.outer:
            self.shrink(u, v)
        elif self.back[v] is None:
            self.back[v] = u
            if self.mates[v] is None:
                return True
            self.outer.append(self.mates[v])
        return False

    def grow(self):
        """An augmenting path from the root, or None; all outer nodes are known then."""
        at = 0
        while at < len(self.outer):
            u = self.outer[at]
            for v in nodes_of(self.masks[u]):
                if self.bases[u] != self.bases[v] and self.mates[u] != v and self.enter(u, v):
                    return self.path_to(v)
            at += 1
        return None

    def path_to(self, v):
        """The path from v, which has no mate, to the root."""
        path = [v, self.back[v]]
        while path[-1] != self.root:
            path.append(self.mates[path[-1]])
            path.append(self.back[path[-1]])
        return path


def mates_of(many, edges):
    """The mates of so many nodes in a matching."""
    mates = [None] * many
    for u, v in edges:
        mates[u] = v
        mates[v] = u
    return mates


def augmenting_path(masks, mates):
    """An augmenting path, or None if the matching is greatest."""
    for root, mate in enumerate(mates):
        if mate is None:
            path = Tree(masks, mates, root).grow()
            if path is not None:
                return path
    return None


def greatest_mates(masks):
    """The mates of a greatest matching."""
    mates = [None] * len(masks)
    path = augmenting_path(masks, mates)
    while path is not None:
        for u, v in zip(path[::2], path[1::2]):
            mates[u] = v
            mates[v] = u
        path = augmenting_path(masks, mates)
    return mates


def outer_nodes(masks, mates):
    """The nodes that some greatest matching leaves without an edge, ascending; the mates are of a greatest one."""
    found = []
    for root, mate in enumerate(mates):
        if mate is None:
            tree = Tree(masks, mates, root)
            tree.grow()
            found.extend(tree.outer)
    return sorted(set(found))
