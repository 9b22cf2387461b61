import unittest
from itertools import permutations, product

from cherrystone.errors import BadArgument
from cherrystone.graphs import Graph, components, degeneracy, distances, shortest_cycle, two_colours
from cherrystone.graphs import is_cycle, is_list, is_path
from tests.samples import all_graphs, cycle_by_eye, drawn_graphs, found_from, grid, large_graphs, near_sets, not_nodes
from tests.samples import orders, pairs_of, path_by_eye, ring, two_sides, wrong_values

HOUSE = Graph(5, [(0, 1), (0, 2), (1, 2), (1, 3), (2, 4), (3, 4)])
SMALL = list(all_graphs(4)) + list(drawn_graphs(6, 2))


class TestFunctions(unittest.TestCase):
    def test_node_lists(self):
        for nodes in ([], [0], [4], [0, 4], [0, 1, 2, 3, 4]):
            self.assertIs(is_list(HOUSE, nodes), True)
        for nodes in ([5], [-1], [1, 0], [0, 2, 1], [1, 1], [0, 1, 2, 3, 4, 5], [0, True], [False]):
            self.assertIs(is_list(HOUSE, nodes), False)
        self.assertIs(is_list(Graph(0, []), []), True)
        self.assertIs(is_list(Graph(0, []), [0]), False)
        self.assertIs(is_list(Graph(40, []), list(range(40))), True)
        self.assertIs(is_list(Graph(40, []), list(range(41))), False)

    def test_paths(self):
        for nodes in ([0], [4], [0, 1], [1, 0], [3, 1, 0, 2, 4], [0, 1, 2, 4, 3]):
            self.assertIs(is_path(HOUSE, nodes), True)
        for nodes in ([], [5], [-1], [0, 3], [0, 0], [0, 1, 0], [0, 1, 2, 0], [0, 1, 3, 2], [True]):
            self.assertIs(is_path(HOUSE, nodes), False)
        self.assertIs(is_path(Graph(0, []), []), False)
        self.assertIs(is_path(ring(40), list(range(39, -1, -1))), True)

    def test_cycles(self):
        for nodes in ([0, 1, 2], [2, 0, 1], [2, 1, 0], [1, 3, 4, 2], [0, 1, 3, 4, 2]):
            self.assertIs(is_cycle(HOUSE, nodes), True)
        for nodes in ([], [0], [0, 1], [0, 1, 3], [0, 1, 2, 0], [1, 2, 3, 4], [0, 1, 0], [0, True, 2], [5, 0, 1]):
            self.assertIs(is_cycle(HOUSE, nodes), False)
        self.assertIs(is_cycle(ring(40), list(range(40))), True)
        self.assertIs(is_cycle(ring(40), list(range(39))), False)

    def test_against_the_edges(self):
        for graph in SMALL[:75] + [HOUSE]:
            for nodes in orders(range(graph.nodes)):
                self.assertIs(is_list(graph, nodes), nodes == sorted(nodes))
                self.assertIs(is_path(graph, nodes), path_by_eye(graph, nodes))
                self.assertIs(is_cycle(graph, nodes), cycle_by_eye(graph, nodes))

    def test_false_for_values_of_all_kinds(self):
        for graph in (Graph(0, []), HOUSE, Graph(40, pairs_of(40))):
            for value in wrong_values():
                for test in (is_list, is_path, is_cycle):
                    self.assertIs(test(graph, value), False, (test, value))


class Components(unittest.TestCase):
    def test_by_example(self):
        self.assertEqual(components(Graph(0, [])), [])
        self.assertEqual(components(Graph(1, [])), [[0]])
        self.assertEqual(components(Graph(6, [(0, 4), (1, 5), (2, 4)])), [[0, 2, 4], [1, 5], [3]])
        self.assertEqual(components(Graph(40, [])), [[v] for v in range(40)])
        self.assertEqual(components(Graph(40, pairs_of(40))), [list(range(40))])

    def test_against_a_search(self):
        for graph in SMALL + list(large_graphs()):
            parts = sorted({tuple(sorted(found_from(graph, [v]))) for v in range(graph.nodes)})
            self.assertEqual(components(graph), [list(part) for part in parts])


class Distances(unittest.TestCase):
    def test_by_example(self):
        self.assertEqual(distances(HOUSE, 0), [0, 1, 1, 2, 2])
        self.assertEqual(distances(Graph(4, [(0, 3), (1, 3)]), 1), [2, 0, None, 1])
        self.assertEqual(distances(Graph(1, []), 0), [0])
        self.assertEqual(distances(ring(40), 0), [min(v, 40 - v) for v in range(40)])

    def test_against_all_paths(self):
        for graph in SMALL:
            paths = [nodes for nodes in orders(range(graph.nodes)) if path_by_eye(graph, nodes)]
            for v in range(graph.nodes):
                for u, found in enumerate(distances(graph, v)):
                    lengths = [len(nodes) - 1 for nodes in paths if nodes[0] == v and nodes[-1] == u]
                    self.assertEqual(found, min(lengths, default=None))

    def test_large_graphs(self):
        for graph in large_graphs():
            for v in range(40):
                found = distances(graph, v)
                reached = found_from(graph, [v])
                self.assertEqual([u for u in range(40) if found[u] is not None], sorted(reached))
                for u, near in near_sets(graph).items():
                    if u != v and u in reached:
                        self.assertEqual(found[u], 1 + min(found[w] for w in near))
                self.assertEqual(found[v], 0)

    def test_what_is_no_node(self):
        for graph in (Graph(0, []), HOUSE, Graph(40, [])):
            for v in not_nodes(graph.nodes):
                with self.assertRaises(BadArgument, msg=v):
                    distances(graph, v)


class ShortestCycle(unittest.TestCase):
    def test_by_example(self):
        self.assertIsNone(shortest_cycle(Graph(0, [])))
        self.assertIsNone(shortest_cycle(Graph(2, [(0, 1)])))
        self.assertIsNone(shortest_cycle(Graph(40, [(v, v + 1) for v in range(39)])))
        self.assertEqual(sorted(shortest_cycle(HOUSE)), [0, 1, 2])
        self.assertEqual(sorted(shortest_cycle(ring(40))), list(range(40)))
        for graph, size in ((two_sides(20, 20), 4), (grid(5, 8), 4), (ring(40, 2), 3), (Graph(40, pairs_of(40)), 3)):
            cycle = shortest_cycle(graph)
            self.assertEqual(len(cycle), size)
            self.assertTrue(cycle_by_eye(graph, cycle))

    def test_graph_of_petersen(self):
        edges = [(v, (v + 1) % 5) for v in range(5)] + [(v, v + 5) for v in range(5)]
        edges += [(5 + v, 5 + (v + 2) % 5) for v in range(5)]
        graph = Graph(10, sorted(tuple(sorted(pair)) for pair in edges))
        cycle = shortest_cycle(graph)
        self.assertEqual(len(cycle), 5)
        self.assertTrue(cycle_by_eye(graph, cycle))

    def test_against_all_cycles(self):
        for graph in SMALL:
            sizes = [len(nodes) for nodes in orders(range(graph.nodes)) if cycle_by_eye(graph, nodes)]
            cycle = shortest_cycle(graph)
            self.assertEqual(None if cycle is None else len(cycle), min(sizes, default=None))
            self.assertTrue(cycle is None or cycle_by_eye(graph, cycle))


class TwoColours(unittest.TestCase):
    def right(self, graph, answer):
        """Whether the answer shows what it tells: the colours of point 6, or an odd cycle."""
        colours, cycle = answer
        if colours is None:
            return cycle_by_eye(graph, cycle) and len(cycle) % 2 == 1
        differ = all(colours[u] != colours[v] for u, v in graph.edges)
        firsts = all(colours[min(found_from(graph, [v]))] == 0 for v in range(graph.nodes))
        return cycle is None and len(colours) == graph.nodes and set(colours) <= {0, 1} and differ and firsts

    def test_by_example(self):
        self.assertEqual(two_colours(Graph(0, [])), ([], None))
        self.assertEqual(two_colours(Graph(3, [])), ([0, 0, 0], None))
        self.assertEqual(two_colours(Graph(5, [(0, 4), (1, 2), (3, 4)])), ([0, 0, 1, 0, 1], None))
        self.assertEqual(two_colours(ring(40)), ([0, 1] * 20, None))
        self.assertEqual(two_colours(two_sides(20, 20)), ([0] * 20 + [1] * 20, None))
        colours, cycle = two_colours(ring(39))
        self.assertIsNone(colours)
        self.assertEqual(sorted(cycle), list(range(39)))

    def test_against_all_colourings(self):
        for graph in SMALL:
            answer = two_colours(graph)
            self.assertIs(type(answer), tuple)
            self.assertTrue(self.right(graph, answer))
            possible = any(all(row[u] != row[v] for u, v in graph.edges) for row in product((0, 1), repeat=graph.nodes))
            self.assertIs(answer[0] is not None, possible)

    def test_larger_graphs(self):
        for graph in list(large_graphs()) + list(drawn_graphs(12, 6)):
            self.assertTrue(self.right(graph, two_colours(graph)))


class Degeneracy(unittest.TestCase):
    def behind(self, graph, order):
        """The greatest number of neighbours that a node has behind it in the order."""
        near = near_sets(graph)
        return max((len(near[v] & set(order[k + 1:])) for k, v in enumerate(order)), default=0)

    def test_by_example(self):
        self.assertEqual(degeneracy(Graph(0, [])), (0, []))
        self.assertEqual(degeneracy(Graph(1, [])), (0, [0]))
        for graph, least in ((HOUSE, 2), (Graph(40, []), 0), (Graph(40, pairs_of(40)), 39), (ring(40), 2),
                             (grid(5, 8), 2), (two_sides(20, 20), 20), (two_sides(3, 37), 3), (ring(40, 10), 20)):
            self.assertEqual(degeneracy(graph)[0], least)

    def test_against_all_orders(self):
        for graph in list(all_graphs(4)) + list(drawn_graphs(6, 1)):
            found, order = degeneracy(graph)
            self.assertEqual(sorted(order), list(range(graph.nodes)))
            self.assertEqual(self.behind(graph, order), found)
            best = min(self.behind(graph, list(other)) for other in permutations(range(graph.nodes)))
            self.assertEqual(found, best)

    def test_large_graphs(self):
        for graph in large_graphs():
            found, order = degeneracy(graph)
            self.assertEqual(sorted(order), list(range(40)))
            self.assertEqual(self.behind(graph, order), found)
            # Some part of the graph in which all nodes have so many neighbours shows that none is less.
            parts = [graph.induced(sorted(order[k:])) for k in range(40)]
            self.assertEqual(found, max(min(part.degree(v) for v in range(part.nodes)) for part in parts))


class Arguments(unittest.TestCase):
    def test_graphs_stay_as_they_were_and_lists_are_new(self):
        for graph in (HOUSE, ring(7), Graph(4, [(0, 1)])):
            before = Graph(graph.nodes, graph.edges)
            for call in (components, shortest_cycle, two_colours, degeneracy, lambda graph: distances(graph, 0)):
                first = repr(call(graph))
                answer = call(graph)
                lists = [answer] + list(answer) if isinstance(answer, (list, tuple)) else []
                for part in lists:
                    if isinstance(part, list):
                        part.append("more")
                self.assertEqual(repr(call(graph)), first)
                self.assertEqual(graph, before)

    def test_lists_to_be_tested_stay_as_they_were(self):
        nodes = [2, 0, 1]
        for test in (is_list, is_path, is_cycle):
            test(HOUSE, nodes)
            self.assertEqual(nodes, [2, 0, 1])


if __name__ == "__main__":
    unittest.main()
