import unittest
from itertools import permutations

from cherrystone.errors import BadArgument
from cherrystone.graphs import Graph
from cherrystone.ways import are_ways, connectivity, disjoint_ways, farthest, separates, ways_between
from tests.samples import all_graphs, drawn, drawn_graphs, found_from, grid, large_graphs, not_nodes, orders, pairs_of
from tests.samples import path_by_eye, ring, subsets, two_sides, wrong_values

# Two squares that share the node 3, and the node 7 alone.
CHAIN = Graph(8, [(0, 1), (0, 2), (1, 3), (2, 3), (3, 4), (3, 5), (4, 6), (5, 6)])
WRONG_LISTS = wrong_values() + [[1, 0], [0, 2, 1], [8], [7, 8], [2, 2]]
WRONG_WAYS = [
    [[]], [[0], []], [None], [True], [0], [0, 1], ["0"], [(0,)], [(0, 1, 3)], [[0, "1"]], [[0.0]], [[True]], [[False]],
    [[0], None], [[None]], [[[0]]], [{0: 1}], [{0}], ([0],), {0: [0]}, "0", [[-1]], [[8]], [[0, 8]], [b"0"],
]


def way_by_eye(graph, first, second, way):
    inner = set(way[:-1]) & set(second) or set(way[1:]) & set(first)
    return path_by_eye(graph, way) and way[0] in first and way[-1] in second and not inner


def ways_by_eye(graph, first, second, ways):
    met = [v for way in ways for v in way]
    return len(met) == len(set(met)) and all(way_by_eye(graph, first, second, way) for way in ways)


def separates_by_eye(graph, first, second, nodes):
    return not found_from(graph, first, nodes) & set(second)


def list_pairs(graph):
    """Pairs of node lists: of small graphs all, of others some, with shared nodes, empty, and full."""
    if graph.nodes < 4:
        return [(one, two) for one in subsets(range(graph.nodes)) for two in subsets(range(graph.nodes))]
    n = graph.nodes
    lists = [[], [0], [n - 1], list(range(n)), list(range(n // 2)), list(range(n // 2, n)), list(range(0, n, 2)),
             list(range(n // 3, n - n // 4)), [0, n // 2, n - 1], [1, 2]]
    return [(one, two) for one in lists for two in lists]


class Ways(unittest.TestCase):
    def test_right_ways(self):
        for first, second, ways in (([0], [6], []), ([], [], []), ([0], [6], [[0, 1, 3, 4, 6]]),
                                    ([0, 1], [3], [[1, 3]]), ([3], [3], [[3]]), ([0, 3], [3, 6], [[3]]),
                                    ([1, 2], [4, 5], [[2, 3, 5]]), ([0, 1], [2, 3], [[0, 2], [1, 3]]),
                                    ([0, 4], [0, 4], [[4], [0]]), ([6], [0], [[6, 5, 3, 2, 0]])):
            self.assertIs(are_ways(CHAIN, first, second, ways), True, (first, second, ways))

    def test_what_are_no_ways(self):
        for first, second, ways in (([], [6], [[6]]), ([0], [], [[0]]), ([0], [6], [[6, 4, 3, 1, 0]]),
                                    ([0], [6], [[0, 1, 3]]), ([0], [6], [[1, 3, 4, 6]]), ([0], [6], [[0, 3, 6]]),
                                    ([0, 1], [3], [[0, 1, 3]]), ([0], [3, 4], [[0, 1, 3, 4]]),
                                    ([0, 3], [3, 6], [[0, 1, 3]]), ([0, 3], [3, 6], [[3, 4, 6]]),
                                    ([0], [6], [[0, 1, 3, 4, 6], [0, 2, 3, 5, 6]]),
                                    ([1, 2], [4, 5], [[1, 3, 4], [2, 3, 5]]), ([0, 3], [0, 3], [[0], [0]]),
                                    ([0], [6], [[0, 1, 0, 2, 3, 4, 6]]), ([0], [0, 1], [[0, 1]])):
            self.assertIs(are_ways(CHAIN, first, second, ways), False, (first, second, ways))

    def test_values_of_all_kinds(self):
        for first, second in (([0], [0]), ([0, 1, 2], [0, 1, 3]), ([], []), (list(range(8)), list(range(8)))):
            for value in wrong_values() + WRONG_WAYS:
                self.assertIs(are_ways(CHAIN, first, second, value), False, value)

    def test_each_path_of_small_graphs(self):
        for graph in list(all_graphs(3)) + list(drawn_graphs(4, 2)):
            walks = list(orders(range(graph.nodes)))
            for first, second in list_pairs(graph):
                for walk in walks:
                    right = way_by_eye(graph, first, second, walk) if walk else False
                    self.assertIs(are_ways(graph, first, second, [walk]), right)


class Separators(unittest.TestCase):
    def test_right_separators(self):
        for first, second, nodes in (([0], [6], [3]), ([0], [6], [0]), ([0], [6], [6]), ([0], [6], [1, 2]),
                                     ([0], [7], []), ([], [0], []), ([0], [], []), ([0, 1], [1, 7], [1]),
                                     ([0], [6], [0, 1, 2, 3, 4, 5, 6, 7])):
            self.assertIs(separates(CHAIN, first, second, nodes), True, (first, second, nodes))

    def test_what_are_no_separators(self):
        for first, second, nodes in (([0], [6], []), ([0], [6], [1]), ([0], [6], [4, 7]), ([0, 1], [1, 7], []),
                                     ([0], [6], [2, 1]), ([0], [6], [3, 3]), ([0], [6], [3, 8]), ([7], [7], [0])):
            self.assertIs(separates(CHAIN, first, second, nodes), False, (first, second, nodes))

    def test_values_of_all_kinds(self):
        for first, second in (([], []), ([0], [7]), ([0], [6])):
            for value in WRONG_LISTS:
                self.assertIs(separates(CHAIN, first, second, value), False, value)

    def test_each_list_of_small_graphs(self):
        for graph in list(all_graphs(3)) + list(drawn_graphs(6, 1)):
            lists = list(subsets(range(graph.nodes)))
            for first, second in list_pairs(graph):
                for nodes in lists:
                    right = separates_by_eye(graph, first, second, nodes)
                    self.assertIs(separates(graph, first, second, nodes), right)


class DisjointWays(unittest.TestCase):
    def check(self, graph, first, second):
        """Checks that ways and separator are right, each on its own, and of equal length."""
        before = (list(first), list(second), list(graph.edges))
        answer = disjoint_ways(graph, first, second)
        self.assertIs(type(answer), tuple)
        ways, separator = answer
        told = (graph.edges, first, second, ways, separator)
        self.assertTrue(ways_by_eye(graph, first, second, ways), told)
        self.assertEqual(separator, sorted(set(separator)), told)
        self.assertTrue(separates_by_eye(graph, first, second, separator), told)
        self.assertEqual(len(ways), len(separator), told)
        self.assertIs(are_ways(graph, first, second, ways), True)
        self.assertIs(separates(graph, first, second, separator), True)
        self.assertEqual((first, second, graph.edges), before)
        return len(ways)

    def test_by_example(self):
        for first, second, many in (([0], [6], 1), ([0], [7], 0), ([], [0, 1], 0), ([0], [], 0), ([3], [3], 1),
                                    ([0, 1], [3, 7], 1), ([0, 3], [1, 4], 2), ([1, 2], [4, 5], 1)):
            self.assertEqual(self.check(CHAIN, first, second), many)
        everything = list(range(8))
        self.assertEqual(self.check(CHAIN, everything, everything), 8)
        self.assertEqual(sorted(disjoint_ways(CHAIN, everything, everything)[0]), [[v] for v in everything])
        self.assertEqual(self.check(Graph(0, []), [], []), 0)

    def test_way_that_must_be_taken_back(self):
        # The short way over the middle bars both long ones until it is taken back.
        graph = Graph(8, [(0, 1), (0, 4), (1, 2), (2, 3), (2, 5), (4, 5), (5, 6), (6, 7)])
        self.assertEqual(self.check(graph, [0, 1], [3, 7]), 2)
        graph = Graph(6, [(0, 2), (1, 2), (1, 3), (2, 4), (2, 5), (3, 5)])
        self.assertEqual(self.check(graph, [0, 1], [4, 5]), 2)

    def test_small_graphs(self):
        for graph in list(all_graphs(4)) + list(drawn_graphs(7, 2)):
            for first, second in list_pairs(graph):
                self.check(graph, first, second)

    def test_middle_graphs(self):
        for graph in list(drawn_graphs(14, 3)) + [grid(4, 5), ring(15, 2), two_sides(5, 8)]:
            for first, second in list_pairs(graph):
                self.check(graph, first, second)

    def test_large_graphs(self):
        for graph in large_graphs():
            for first, second in list_pairs(graph):
                self.check(graph, first, second)
        self.assertEqual(self.check(grid(5, 8), [0, 8, 16, 24, 32], [7, 15, 23, 31, 39]), 5)
        self.assertEqual(self.check(two_sides(20, 20), list(range(20)), list(range(20, 40))), 20)
        self.assertEqual(self.check(two_sides(3, 37), list(range(3, 20)), list(range(20, 40))), 3)

    def test_what_is_no_node_list(self):
        for nodes in WRONG_LISTS:
            for call, more in ((disjoint_ways, []), (farthest, []), (are_ways, [[]]), (separates, [[]])):
                with self.assertRaises(BadArgument, msg=nodes):
                    call(CHAIN, nodes, [0], *more)
                with self.assertRaises(BadArgument, msg=nodes):
                    call(CHAIN, [0], nodes, *more)


class WaysBetween(unittest.TestCase):
    def check(self, graph, u, v):
        answer = ways_between(graph, u, v)
        self.assertIs(type(answer), tuple)
        ways, separator = answer
        told = (graph.edges, u, v, ways, separator)
        for way in ways:
            self.assertTrue(path_by_eye(graph, way) and way[0] == u and way[-1] == v, told)
        inner = [w for way in ways for w in way[1:-1]]
        self.assertEqual(len(set(inner)), len(inner), told)
        self.assertEqual(separator, sorted(set(separator)), told)
        self.assertFalse({u, v} & set(separator), told)
        self.assertNotIn(v, found_from(graph, [u], separator), told)
        self.assertEqual(len(ways), len(separator), told)
        return len(ways)

    def check_all(self, graph):
        for u in range(graph.nodes):
            for v in range(graph.nodes):
                if u != v and not graph.adjacent(u, v):
                    self.assertEqual(self.check(graph, u, v), self.check(graph, v, u))

    def test_by_example(self):
        self.assertEqual(self.check(CHAIN, 0, 6), 1)
        self.assertEqual(ways_between(CHAIN, 0, 6)[1], [3])
        self.assertEqual(self.check(CHAIN, 6, 3), 2)
        self.assertEqual(self.check(CHAIN, 1, 7), 0)
        self.assertEqual(self.check(ring(40), 0, 20), 2)
        self.assertEqual(self.check(two_sides(20, 20), 0, 1), 20)

    def test_small_graphs(self):
        for graph in list(all_graphs(4)) + list(drawn_graphs(7, 3)) + list(drawn_graphs(11, 1)):
            self.check_all(graph)

    def test_large_graphs(self):
        for graph in large_graphs():
            for u, v in ((0, 39), (5, 31), (20, 2), (17, 18)):
                if not graph.adjacent(u, v):
                    self.check(graph, u, v)

    def test_nodes_that_are_the_same_or_adjacent(self):
        for u, v in ((0, 0), (7, 7), (0, 1), (1, 0), (3, 5), (6, 5)):
            with self.assertRaises(BadArgument, msg=(u, v)):
                ways_between(CHAIN, u, v)

    def test_what_is_no_node(self):
        for v in not_nodes(8):
            with self.assertRaises(BadArgument, msg=v):
                ways_between(CHAIN, v, 7)
            with self.assertRaises(BadArgument, msg=v):
                ways_between(CHAIN, 7, v)


class Farthest(unittest.TestCase):
    def farthest_by_eye(self, graph, first, second):
        """Of all least separators, the one whose reach contains that of each other one."""
        found = [nodes for nodes in subsets(range(graph.nodes)) if separates_by_eye(graph, first, second, nodes)]
        least = [nodes for nodes in found if len(nodes) == len(found[0])]
        reaches = [found_from(graph, first, nodes) for nodes in least]
        last = [nodes for nodes, reach in zip(least, reaches) if all(reach >= other for other in reaches)]
        self.assertEqual(len(last), 1)
        return last[0]

    def test_by_example(self):
        self.assertEqual(farthest(CHAIN, [0], [6]), [6])
        self.assertEqual(farthest(CHAIN, [0, 1], [4, 5, 6]), [3])
        self.assertEqual(farthest(CHAIN, [6], [0]), [0])
        self.assertEqual(farthest(CHAIN, [0], [7]), [])
        self.assertEqual(farthest(CHAIN, [], []), [])
        self.assertEqual(farthest(CHAIN, [0, 1, 2], [0, 1, 2]), [0, 1, 2])
        self.assertEqual(farthest(Graph(40, [(v, v + 1) for v in range(39)]), [0], [39]), [39])
        self.assertEqual(farthest(grid(5, 8), [0, 8, 16, 24, 32], [7, 15, 23, 31, 39]), [7, 15, 23, 31, 39])
        self.assertEqual(farthest(two_sides(3, 37), [5, 6, 7, 8], [9, 10, 11, 12]), [0, 1, 2])

    def test_against_all_separators(self):
        for graph in list(all_graphs(3)) + list(drawn_graphs(4, 3)) + list(drawn_graphs(7, 2)):
            for first, second in list_pairs(graph):
                self.assertEqual(farthest(graph, first, second), self.farthest_by_eye(graph, first, second))

    def test_large_graphs(self):
        """If nothing is farther away, there are more ways as soon as a node of the separator is passed."""
        for graph in large_graphs():
            first, second = list(range(0, 12)), list(range(30, 40))
            separator = farthest(graph, first, second)
            self.assertTrue(separates_by_eye(graph, first, second, separator))
            self.assertEqual(len(separator), len(disjoint_ways(graph, first, second)[1]))
            reach = found_from(graph, first, separator)
            for v in separator:
                passed = reach | set(first) | {v} | set(graph.neighbours(v))
                ways, _ = disjoint_ways(graph, sorted(passed), second)
                self.assertTrue(v in second or len(ways) > len(separator), (graph.edges, separator))


class Connectivity(unittest.TestCase):
    def check(self, graph):
        answer = connectivity(graph)
        self.assertIs(type(answer), tuple)
        number, nodes = answer
        if nodes is None:
            self.assertEqual(graph.edges, pairs_of(graph.nodes))
            self.assertEqual(number, graph.nodes - 1)
            return number
        self.assertEqual(len(nodes), number)
        self.assertEqual(nodes, sorted(set(nodes)))
        self.assertFalse(self.connected(graph, nodes), (graph.edges, nodes))
        return number

    def connected(self, graph, barred):
        others = [v for v in range(graph.nodes) if v not in barred]
        return len(others) < 2 or found_from(graph, others[:1], barred) == set(others)

    def test_by_example(self):
        for graph, number in ((Graph(2, []), 0), (Graph(2, [(0, 1)]), 1), (CHAIN, 0), (CHAIN.without([7]), 1),
                              (Graph(3, [(0, 1), (1, 2)]), 1), (Graph(40, pairs_of(40)), 39), (Graph(40, []), 0),
                              (Graph(40, pairs_of(40)[1:]), 38), (Graph(40, pairs_of(40)[:-1]), 38), (ring(40), 2),
                              (ring(40, 5), 10), (ring(40, 10), 20), (two_sides(20, 20), 20), (two_sides(3, 37), 3),
                              (two_sides(37, 3), 3), (grid(5, 8), 2)):
            self.assertEqual(self.check(graph), number)
        self.assertEqual(connectivity(Graph(2, [(0, 1)])), (1, None))
        self.assertEqual(connectivity(Graph(2, [])), (0, []))
        self.assertEqual(connectivity(CHAIN.without([7])), (1, [3]))

    def test_least_degree_is_not_enough(self):
        # Two times all edges between five nodes, joined by the nodes 0 and 1.
        left, right = [0, 1, 2, 3, 4, 5], [0, 1, 6, 7, 8, 9]
        edges = sorted({(u, v) for part in (left, right) for u in part for v in part if u < v})
        for names in (list(range(10)), list(range(9, -1, -1)), [4, 7, 0, 1, 2, 3, 5, 6, 8, 9]):
            graph = Graph(10, sorted(tuple(sorted((names[u], names[v]))) for u, v in edges))
            self.assertEqual(connectivity(graph), (2, sorted(names[:2])))

    def test_each_numbering(self):
        # All edges between four nodes, twice, with two nodes in common: one less than the least degree.
        parts = ([0, 1, 2, 3], [0, 1, 4, 5])
        edges = {(u, v) for part in parts for u in part for v in part if u < v}
        for names in permutations(range(6)):
            graph = Graph(6, sorted(tuple(sorted((names[u], names[v]))) for u, v in edges))
            self.assertEqual(connectivity(graph), (2, sorted(names[:2])))

    def test_against_all_lists(self):
        for graph in [graph for graph in all_graphs(4) if graph.nodes > 1] + list(drawn_graphs(8, 3)):
            cuts = [nodes for nodes in subsets(range(graph.nodes)) if not self.connected(graph, nodes)]
            number = len(cuts[0]) if cuts else graph.nodes - 1
            self.assertEqual(self.check(graph), number)

    def test_large_graphs(self):
        for graph in large_graphs():
            number = self.check(graph)
            # A graph is connected without any set of fewer nodes, thus without these.
            self.assertTrue(number == 0 or self.connected(graph, list(range(number - 1))))
            self.assertLessEqual(number, min(graph.degree(v) for v in range(40)))

    def test_against_each_pair_of_nodes(self):
        for graph in [drawn(20, percent, 3) for percent in (20, 40, 60, 80)]:
            pairs = [pair for pair in pairs_of(20) if not graph.adjacent(*pair)]
            self.assertEqual(self.check(graph), min(len(ways_between(graph, u, v)[0]) for u, v in pairs))

    def test_fewer_than_two_nodes(self):
        for many in (0, 1):
            with self.assertRaises(BadArgument):
                connectivity(Graph(many, []))


if __name__ == "__main__":
    unittest.main()
