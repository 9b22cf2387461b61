import unittest

from cherrystone.errors import BadArgument, BadGraph
from cherrystone.graphs import Graph, make_graph
from tests.samples import all_graphs, drawn_graphs, large_graphs, near_sets, not_nodes, pairs_of, subsets, wrong_values

HOUSE = [(0, 1), (0, 2), (1, 2), (1, 3), (2, 4), (3, 4)]


class RightGraphs(unittest.TestCase):
    def test_fields(self):
        for many, edges in ((0, []), (1, []), (2, [(0, 1)]), (5, HOUSE), (40, []), (40, pairs_of(40))):
            graph = Graph(many, edges)
            self.assertEqual(graph.nodes, many)
            self.assertEqual(graph.edges, edges)
            self.assertIs(type(graph.nodes), int)
            self.assertIs(type(graph.edges), list)
            self.assertEqual(graph.many, len(edges))

    def test_last_node_of_40_has_edges(self):
        graph = Graph(40, [(0, 39), (38, 39)])
        self.assertEqual(graph.neighbours(39), [0, 38])

    def test_edges_are_a_list_of_its_own(self):
        edges = list(HOUSE)
        graph = Graph(5, edges)
        self.assertIsNot(graph.edges, edges)
        edges.append((3, 4))
        edges[0] = None
        self.assertEqual(graph.edges, HOUSE)

    def test_names_of_arguments(self):
        self.assertEqual(Graph(nodes=2, edges=[(0, 1)]), Graph(2, [(0, 1)]))
        self.assertEqual(make_graph(nodes=2, pairs=[(1, 0)]), Graph(2, [(0, 1)]))


class WrongGraphs(unittest.TestCase):
    def refused(self, nodes, edges):
        with self.assertRaises(BadGraph, msg=(nodes, edges)):
            Graph(nodes, edges)

    def test_wrong_numbers_of_nodes(self):
        for nodes in (-1, 41, 10 ** 30, -10 ** 30, True, False, None, "", "3", 3.0, b"3", [], [3], (), {}, len):
            self.refused(nodes, [])

    def test_edges_out_of_order_or_twice(self):
        self.refused(4, [(0, 2), (0, 1)])
        self.refused(4, [(1, 2), (0, 3)])
        self.refused(4, [(0, 1), (2, 3), (1, 2)])
        self.refused(4, [(0, 1), (0, 1)])
        self.refused(4, [(0, 1), (1, 2), (1, 2)])

    def test_pairs_that_are_no_edges(self):
        for pair in ((1, 0), (3, 2), (1, 1), (0, 0), (0, 4), (4, 5), (-1, 0), (-2, -1), (0, 40), (0, 10 ** 30),
                     (0, True), (False, 1), (False, True), (0, 1, 2), (0,), (), [0, 1], {0, 1}, "01", b"01", None, 0,
                     1, True, (0, None), (None, 1), (0, "1"), ("0", "1"), (0, 1.0), (0.0, 1), (0, [1]), (0, (1,)),
                     ((0, 1), (1, 2)), range(2), {0: 1, 1: 2}, 1.5, len):
            self.refused(4, [pair])
            self.refused(4, [(0, 2), pair])
            self.refused(4, [pair, (2, 3)])

    def test_edges_of_graphs_without_room_for_them(self):
        self.refused(0, [(0, 1)])
        self.refused(0, [(0, 0)])
        self.refused(1, [(0, 1)])
        self.refused(40, [(39, 40)])

    def test_edges_that_are_no_list(self):
        for edges in ((), ((0, 1),), None, 0, 1, 2.5, {}, {(0, 1): 1}, "", "01", "0-1", b"", {(0, 1)}, True, False,
                      range(0), iter([]), object(), list):
            self.refused(4, edges)

    def test_wrong_nodes_and_wrong_edges(self):
        self.refused(None, None)
        self.refused(-1, [(0, 1)])
        self.refused(True, [(0, 0)])


class Equality(unittest.TestCase):
    def test_same_nodes_and_edges(self):
        self.assertTrue(Graph(5, HOUSE) == Graph(5, list(HOUSE)))
        self.assertFalse(Graph(5, HOUSE) != Graph(5, list(HOUSE)))
        self.assertTrue(Graph(0, []) == Graph(0, []))

    def test_other_nodes_or_edges(self):
        self.assertFalse(Graph(5, HOUSE) == Graph(6, HOUSE))
        self.assertFalse(Graph(5, HOUSE) == Graph(5, HOUSE[:-1]))
        self.assertFalse(Graph(5, HOUSE[:-1]) == Graph(5, HOUSE))
        self.assertFalse(Graph(3, [(0, 1)]) == Graph(3, [(0, 2)]))
        self.assertTrue(Graph(5, HOUSE) != Graph(6, HOUSE))

    def test_other_values(self):
        for value in wrong_values() + [(5, HOUSE), HOUSE, 5, "5; 0-1"]:
            self.assertFalse(Graph(5, HOUSE) == value)
            self.assertTrue(Graph(5, HOUSE) != value)


class Neighbours(unittest.TestCase):
    def test_against_the_edges(self):
        for graph in list(all_graphs(4)) + list(drawn_graphs(9, 2)) + list(large_graphs()):
            near = near_sets(graph)
            for v in range(graph.nodes):
                self.assertEqual(graph.neighbours(v), sorted(near[v]))
                self.assertEqual(graph.degree(v), len(near[v]))
                for u in range(graph.nodes):
                    self.assertIs(graph.adjacent(u, v), u in near[v])

    def test_a_node_is_not_adjacent_to_itself(self):
        graph = Graph(3, pairs_of(3))
        for v in range(3):
            self.assertIs(graph.adjacent(v, v), False)

    def test_neighbours_are_a_new_list(self):
        graph = Graph(5, HOUSE)
        graph.neighbours(0).append(9)
        self.assertEqual(graph.neighbours(0), [1, 2])

    def test_what_is_no_node(self):
        for graph in (Graph(0, []), Graph(5, HOUSE), Graph(40, pairs_of(40))):
            for v in not_nodes(graph.nodes):
                for call in (graph.neighbours, graph.degree):
                    with self.assertRaises(BadArgument, msg=v):
                        call(v)
                if graph.nodes:
                    with self.assertRaises(BadArgument, msg=v):
                        graph.adjacent(v, 0)
                    with self.assertRaises(BadArgument, msg=v):
                        graph.adjacent(0, v)


class PartsOfGraphs(unittest.TestCase):
    def test_induced_by_example(self):
        graph = Graph(5, HOUSE)
        self.assertEqual(graph.induced([1, 3, 4]), Graph(3, [(0, 1), (1, 2)]))
        self.assertEqual(graph.induced([]), Graph(0, []))
        self.assertEqual(graph.induced([0, 1, 2, 3, 4]), graph)
        self.assertEqual(graph.without([0, 2]), Graph(3, [(0, 1), (1, 2)]))
        self.assertEqual(graph.without([]), graph)
        self.assertEqual(graph.without([0, 1, 2, 3, 4]), Graph(0, []))

    def test_induced_against_the_edges(self):
        for graph in list(all_graphs(3)) + list(drawn_graphs(6, 1)):
            for nodes in subsets(range(graph.nodes)):
                part = graph.induced(nodes)
                self.assertEqual(part.nodes, len(nodes))
                kept = [(nodes[i], nodes[j]) for i, j in part.edges]
                self.assertEqual(kept, [pair for pair in graph.edges if set(pair) <= set(nodes)])
                others = [v for v in range(graph.nodes) if v not in nodes]
                self.assertEqual(graph.without(others), part)

    def test_induced_of_large_graphs(self):
        for graph in large_graphs():
            self.assertEqual(graph.induced(list(range(40))), graph)
            self.assertEqual(graph.without([39]).edges, [pair for pair in graph.edges if 39 not in pair])

    def test_complement_by_example(self):
        self.assertEqual(Graph(4, [(0, 1), (2, 3)]).complement(), Graph(4, [(0, 2), (0, 3), (1, 2), (1, 3)]))
        self.assertEqual(Graph(0, []).complement(), Graph(0, []))
        self.assertEqual(Graph(40, []).complement(), Graph(40, pairs_of(40)))

    def test_complement_against_the_edges(self):
        for graph in list(all_graphs(4)) + list(large_graphs()):
            other = graph.complement()
            self.assertEqual(other.nodes, graph.nodes)
            self.assertEqual(other.edges, [pair for pair in pairs_of(graph.nodes) if pair not in set(graph.edges)])
            self.assertEqual(other.complement(), graph)

    def test_what_is_no_node_list(self):
        graph = Graph(5, HOUSE)
        for nodes in wrong_values() + [[1, 0], [0, 2, 1], [5], [4, 5], [2, 2]]:
            for call in (graph.induced, graph.without):
                with self.assertRaises(BadArgument, msg=nodes):
                    call(nodes)

    def test_arguments_and_graph_stay_as_they_were(self):
        graph = Graph(5, HOUSE)
        nodes = [0, 2, 4]
        graph.induced(nodes)
        graph.without(nodes)
        graph.complement()
        self.assertEqual(nodes, [0, 2, 4])
        self.assertEqual(graph, Graph(5, HOUSE))


class MakeGraph(unittest.TestCase):
    def test_either_order_once_or_more(self):
        pairs = [(3, 1), (0, 1), (1, 3), (1, 0), (0, 1), (3, 2)]
        self.assertEqual(make_graph(4, pairs), Graph(4, [(0, 1), (1, 3), (2, 3)]))
        self.assertEqual(pairs, [(3, 1), (0, 1), (1, 3), (1, 0), (0, 1), (3, 2)])

    def test_edges_of_bounds(self):
        self.assertEqual(make_graph(0, []), Graph(0, []))
        self.assertEqual(make_graph(40, [(39, 0)]), Graph(40, [(0, 39)]))
        self.assertEqual(make_graph(40, [(v, u) for u, v in reversed(pairs_of(40))]), Graph(40, pairs_of(40)))

    def test_what_are_no_pairs(self):
        for pair in ((1, 1), (0, 4), (4, 0), (-1, 0), (0, True), (False, 1), (0, 1, 2), (0,), (), [0, 1], {0, 1}, "01",
                     None, 0, True, (0, None), ("0", "1"), (0, 1.0), (0, [1])):
            for pairs in ([pair], [(0, 1), pair], [pair, (1, 0)]):
                with self.assertRaises(BadGraph, msg=pairs):
                    make_graph(4, pairs)
        for pairs in ((), ((0, 1),), None, 0, {}, {(0, 1): 1}, "", "01", {(0, 1)}, True):
            with self.assertRaises(BadGraph, msg=pairs):
                make_graph(4, pairs)

    def test_what_are_no_nodes(self):
        for nodes in (-1, 41, True, False, None, "3", 3.0, [], ()):
            with self.assertRaises(BadGraph, msg=nodes):
                make_graph(nodes, [])


if __name__ == "__main__":
    unittest.main()
