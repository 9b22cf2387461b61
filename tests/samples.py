"""Graphs, values of wrong kinds, and slow searches that the tests hold the program against."""

import random
from itertools import combinations, permutations

from cherrystone.graphs import Graph


def pairs_of(many):
    return list(combinations(range(many), 2))


def all_graphs(most):
    """All graphs with at most so many nodes."""
    for many in range(most + 1):
        pairs = pairs_of(many)
        for bits in range(2 ** len(pairs)):
            yield Graph(many, [pair for k, pair in enumerate(pairs) if bits >> k & 1])


def drawn(many, percent, seed):
    """A graph in which about so many of 100 pairs are edges; the same one in each run."""
    source = random.Random(1000 * percent + 100000 * many + seed)
    return Graph(many, [pair for pair in pairs_of(many) if source.random() * 100 < percent])


def drawn_graphs(many, each):
    """Drawn graphs with so many nodes, thin and dense ones."""
    for percent in (10, 20, 30, 45, 60, 80):
        for seed in range(each):
            yield drawn(many, percent, seed)


def ring(many, reach=1):
    """A graph whose nodes stand in a ring, adjacent to the nearest ones on both sides."""
    near = {tuple(sorted((v, (v + k) % many))) for v in range(many) for k in range(1, reach + 1)}
    return Graph(many, sorted(near))


def two_sides(left, right):
    """A graph in which all nodes of the left are adjacent to all of the right."""
    return Graph(left + right, [(u, v) for u in range(left) for v in range(left, left + right)])


def grid(rows, columns):
    """A graph whose nodes stand in rows and columns, adjacent to the next ones."""
    across = [(r * columns + c, r * columns + c + 1) for r in range(rows) for c in range(columns - 1)]
    down = [(r * columns + c, (r + 1) * columns + c) for r in range(rows - 1) for c in range(columns)]
    return Graph(rows * columns, sorted(across + down))


def large_graphs():
    """Graphs with 40 nodes, from none to all edges."""
    yield Graph(40, [])
    yield Graph(40, pairs_of(40))
    yield Graph(40, [pair for pair in pairs_of(40) if pair[1] - pair[0] == 1])
    yield Graph(40, sorted(((v - 1) // 2, v) for v in range(1, 40)))
    yield Graph(40, [(0, v) for v in range(1, 40)])
    yield Graph(40, [pair for pair in pairs_of(40) if pair[0] // 2 != pair[1] // 2])
    yield two_sides(20, 20)
    yield two_sides(3, 37)
    yield grid(5, 8)
    for reach in (1, 2, 5, 10, 15):
        yield ring(40, reach)
    for percent in (3, 6, 12, 25, 50, 75, 95):
        yield drawn(40, percent, 1)


def wrong_values():
    """Values that are no node list, no path, no cycle and no list of ways, in any graph."""
    return [
        None, True, False, 0, 1, -1, 2.0, "", "0", "01", b"", b"\x00\x01", (), (0,), (0, 1), (0, 1, 2), {}, {0: 1},
        set(), {0}, {0, 1}, frozenset({0}), range(3), object(), len, int, [None], [True], [False], [False, True],
        [False, True, 2], [0.0], [0.0, 1.0], ["0"], ["0", "1"], ["01"], [b"0"], [()], [(0,)], [(0, 1)], [{}],
        [{0}], [0, None], [0, "1"], [0, 1.0], [0, True], [None, 0], [0, [1]], [-1], [-1, 0], [0, -1], [40], [0, 40],
        [0, 1, 10 ** 30], [object()], [len], float("nan"), [float("nan")], iter([0]), [0, 0], [0, 1, 1], [0, 1, 0],
    ]


def not_nodes(many):
    """Values that are no node of a graph with so many nodes."""
    return [-1, many, many + 1, 40, 10 ** 30, True, False, None, "0", "", 0.0, 1.5, b"0", (), (0,), [], [0], {}]


def near_sets(graph):
    """For each node the set of its neighbours, read off the edges alone."""
    near = {v: set() for v in range(graph.nodes)}
    for u, v in graph.edges:
        near[u].add(v)
        near[v].add(u)
    return near


def found_from(graph, starts, barred=()):
    """The set of the nodes that can be reached from the starts without the barred ones."""
    near = near_sets(graph)
    found = {v for v in starts if v not in barred}
    queue = list(found)
    while queue:
        for v in near[queue.pop()]:
            if v not in found and v not in barred:
                found.add(v)
                queue.append(v)
    return found


def path_by_eye(graph, nodes):
    edges = set(graph.edges)
    steps = [tuple(sorted(pair)) for pair in zip(nodes, nodes[1:])]
    return len(nodes) > 0 and len(set(nodes)) == len(nodes) and all(step in edges for step in steps)


def cycle_by_eye(graph, nodes):
    return len(nodes) > 2 and path_by_eye(graph, nodes) and tuple(sorted((nodes[0], nodes[-1]))) in graph.edges


def subsets(nodes):
    """All ascending lists of some of the nodes, the short ones first."""
    for size in range(len(nodes) + 1):
        for chosen in combinations(nodes, size):
            yield list(chosen)


def orders(nodes):
    """All lists of some of the nodes, in any order."""
    for size in range(len(nodes) + 1):
        for chosen in permutations(nodes, size):
            yield list(chosen)
