"""Graphs, values of wrong kinds, and slow searches that the tests hold the program against."""

import random
from itertools import combinations, permutations

from cherrystone.graphs import Graph, make_graph
from cherrystone.hitting import Family


def pairs_of(many):
    return list(combinations(range(many), 2))


def all_graphs(most):
    """All graphs with at most so many nodes."""
    for many in range(most + 1):
        pairs = pairs_of(many)
        for bits in range(2 ** len(pairs)):
            yield Graph(many, [pair for k, pair in enumerate(pairs) if bits >> k & 1])


def drawn(many, percent, seed):
    """A graph in which about so many of 100 pairs are edges; the same one in each run."""
    source = random.Random(1000 * percent + 100000 * many + seed)
    return Graph(many, [pair for pair in pairs_of(many) if source.random() * 100 < percent])


def drawn_graphs(many, each):
    """Drawn graphs with so many nodes, thin and dense ones."""
    for percent in (10, 20, 30, 45, 60, 80):
        for seed in range(each):
            yield drawn(many, percent, seed)


def ring(many, reach=1):
    """A graph whose nodes stand in a ring, adjacent to the nearest ones on both sides."""
    near = {tuple(sorted((v, (v + k) % many))) for v in range(many) for k in range(1, reach + 1)}
    return Graph(many, sorted(near))


def two_sides(left, right):
    """A graph in which all nodes of the left are adjacent to all of the right."""
    return Graph(left + right, [(u, v) for u in range(left) for v in range(left, left + right)])


def grid(rows, columns):
    """A graph whose nodes stand in rows and columns, adjacent to the next ones."""
    across = [(r * columns + c, r * columns + c + 1) for r in range(rows) for c in range(columns - 1)]
    down = [(r * columns + c, (r + 1) * columns + c) for r in range(rows - 1) for c in range(columns)]
    return Graph(rows * columns, sorted(across + down))


def large_graphs():
    """Graphs with 40 nodes, from none to all edges."""
    yield Graph(40, [])
    yield Graph(40, pairs_of(40))
    yield Graph(40, [pair for pair in pairs_of(40) if pair[1] - pair[0] == 1])
    yield Graph(40, sorted(((v - 1) // 2, v) for v in range(1, 40)))
    yield Graph(40, [(0, v) for v in range(1, 40)])
    yield Graph(40, [pair for pair in pairs_of(40) if pair[0] // 2 != pair[1] // 2])
    yield two_sides(20, 20)
    yield two_sides(3, 37)
    yield grid(5, 8)
    for reach in (1, 2, 5, 10, 15):
        yield ring(40, reach)
    for percent in (3, 6, 12, 25, 50, 75, 95):
        yield drawn(40, percent, 1)


def wrong_values():
    """Values that are no node list, no path, no cycle and no list of ways, in any graph."""
    return [
        None, True, False, 0, 1, -1, 2.0, "", "0", "01", b"", b"\x00\x01", (), (0,), (0, 1), (0, 1, 2), {}, {0: 1},
        set(), {0}, {0, 1}, frozenset({0}), range(3), object(), len, int, [None], [True], [False], [False, True],
        [False, True, 2], [0.0], [0.0, 1.0], ["0"], ["0", "1"], ["01"], [b"0"], [()], [(0,)], [(0, 1)], [{}],
        [{0}], [0, None], [0, "1"], [0, 1.0], [0, True], [None, 0], [0, [1]], [-1], [-1, 0], [0, -1], [40], [0, 40],
        [0, 1, 10 ** 30], [object()], [len], float("nan"), [float("nan")], iter([0]), [0, 0], [0, 1, 1], [0, 1, 0],
    ]


def not_nodes(many):
    """Values that are no node of a graph with so many nodes."""
    return [-1, many, many + 1, 40, 10 ** 30, True, False, None, "0", "", 0.0, 1.5, b"0", (), (0,), [], [0], {}]


def near_sets(graph):
    """For each node the set of its neighbours, read off the edges alone."""
    near = {v: set() for v in range(graph.nodes)}
    for u, v in graph.edges:
        near[u].add(v)
        near[v].add(u)
    return near


def found_from(graph, starts, barred=()):
    """The set of the nodes that can be reached from the starts without the barred ones."""
    near = near_sets(graph)
    found = {v for v in starts if v not in barred}
    queue = list(found)
    while queue:
        for v in near[queue.pop()]:
            if v not in found and v not in barred:
                found.add(v)
                queue.append(v)
    return found


def path_by_eye(graph, nodes):
    edges = set(graph.edges)
    steps = [tuple(sorted(pair)) for pair in zip(nodes, nodes[1:])]
    return len(nodes) > 0 and len(set(nodes)) == len(nodes) and all(step in edges for step in steps)


def cycle_by_eye(graph, nodes):
    return len(nodes) > 2 and path_by_eye(graph, nodes) and tuple(sorted((nodes[0], nodes[-1]))) in graph.edges


def subsets(nodes):
    """All ascending lists of some of the nodes, the short ones first."""
    for size in range(len(nodes) + 1):
        for chosen in combinations(nodes, size):
            yield list(chosen)


def orders(nodes):
    """All lists of some of the nodes, in any order."""
    for size in range(len(nodes) + 1):
        for chosen in permutations(nodes, size):
            yield list(chosen)


def components_by_eye(graph, barred=()):
    """The components of the graph without the barred nodes, as sets."""
    parts = []
    for v in range(graph.nodes):
        if v not in barred and not any(v in part for part in parts):
            parts.append(found_from(graph, [v], barred))
    return parts


def forest_by_eye(graph, barred=()):
    """Whether the graph without the barred nodes has no cycle: one edge less than nodes in each component."""
    left = [pair for pair in graph.edges if not set(pair) & set(barred)]
    return len(left) == sum(len(part) - 1 for part in components_by_eye(graph, barred))


def petersen():
    """Petersen's graph: ten nodes with three neighbours each, and no cycle of less than five nodes."""
    outer = [tuple(sorted((v, (v + 1) % 5))) for v in range(5)]
    inner = [tuple(sorted((5 + v, 5 + (v + 2) % 5))) for v in range(5)]
    return Graph(10, sorted(outer + inner + [(v, v + 5) for v in range(5)]))


def clique(many):
    return Graph(many, pairs_of(many))


def apart(*graphs):
    """The graph that consists of the graphs side by side."""
    edges, first = [], 0
    for graph in graphs:
        edges += [(u + first, v + first) for u, v in graph.edges]
        first += graph.nodes
    return Graph(first, edges)


def not_numbers(low, high):
    """Values that are no integer from low to high."""
    return [low - 1, high + 1, high + 1000, -10 ** 30, 10 ** 30, True, False, None, "", str(low), float(low + 1), b"1",
            (), (low,), [], [low], {}, set(), object(), len]


def drawn_family(size, many, sizes, seed):
    """A family of at most so many sets of such sizes; the same one in each run."""
    source = random.Random(seed)
    drawn = [tuple(sorted(source.sample(range(size), source.choice(sizes)))) for _ in range(many)]
    return Family(size, sorted(set(drawn)))


def large_families():
    """Families of 40 elements and up to 300 sets."""
    yield Family(40, [])
    yield Family(40, [()])
    yield Family(40, [(v,) for v in range(40)])
    yield Family(40, sorted(combinations(range(25), 2)))
    yield Family(40, sorted(combinations(range(40), 2))[:300])
    yield Family(40, sorted(combinations(range(10), 8)) + sorted(combinations(range(10, 20), 8)))
    yield Family(40, [tuple(range(v, v + 8)) for v in range(33)])
    for seed in range(4):
        for sizes in ((1, 2), (2,), (3,), (4, 5), (6, 7, 8), (8,), (0, 1, 2, 3, 4, 5, 6, 7, 8)):
            yield drawn_family(40, 300, sizes, seed)
            yield drawn_family(14, 300, sizes, seed)


def hung(source, many, size, thin):
    """A graph with so many nodes and a meeting set of so many of them: (graph, meeting set)."""
    nodes = source.sample(range(many), many)
    met, others = nodes[:size], nodes[size:]
    pairs = [(v, source.choice(others[max(0, k - 4):k])) for k, v in enumerate(others) if k and source.random() < 0.9]
    pairs += [(u, v) for u in met for v in nodes if u != v and source.random() < thin]
    return make_graph(many, pairs), sorted(met)


def patched(source, many, size, thin):
    """A graph and an odd set of it with so many nodes: (graph, nodes)."""
    nodes = source.sample(range(many), many)
    side = {v: source.randrange(2) for v in nodes}
    met = nodes[:size]
    pairs = [(u, v) for u, v in combinations(range(many), 2)
             if source.random() < thin and (side[u] != side[v] or u in met or v in met)]
    return make_graph(many, pairs), sorted(met)


def wide_decompositions():
    """Graphs with 40 nodes and decompositions of them, with bags of six nodes and some bags twice."""
    source = random.Random(1)
    for percent in (0, 10, 20, 40, 70, 100):
        for reach in (1, 3, 40):
            bags, links, edges = [list(range(6))], [], []
            for v in range(6, 40):
                at = source.randrange(max(0, len(bags) - reach), len(bags))
                five = sorted(source.sample(bags[at], 5))
                edges += [(u, v) for u in five if source.random() * 100 < percent]
                links.append((at, len(bags)))
                bags.append(five + [v])
            for at in range(0, len(bags), 2):
                links.append((at, len(bags)))
                bags.append(list(bags[at]))
            yield Graph(40, sorted(edges)), (bags, sorted(links))
