import unittest
from itertools import combinations

from cherrystone.covers import is_cover
from cherrystone.cycles import least_meeting, meets_cycles
from cherrystone.errors import BadArgument, TooLarge
from cherrystone.graphs import Graph, make_graph
from cherrystone.hitting import Family, hits, least_hitting_set
from cherrystone.reductions import (coloured_copies, cycle_graph, domination_graph, from_copies, from_cycles,
                                    from_domination, is_clique, is_coloured_clique, is_dominating, is_independent,
                                    other_nodes, to_copies, to_cycles, to_domination)
from tests.samples import all_graphs, apart, clique, drawn_family, drawn_graphs, forest_by_eye, grid, large_graphs
from tests.samples import near_sets, not_numbers, petersen, ring, subsets, two_sides, wrong_values

# A cycle of three nodes, a path from it, and the node 5 alone.
KITE = Graph(6, [(0, 1), (0, 2), (1, 2), (2, 3), (3, 4)])
SETS = Family(4, [(0, 1), (0, 2, 3), (1, 3), (3,)])


def independent_by_eye(graph, nodes):
    return not any(pair in graph.edges for pair in combinations(nodes, 2))


def clique_by_eye(graph, nodes):
    return all(pair in graph.edges for pair in combinations(nodes, 2))


def dominating_by_eye(graph, nodes):
    near = near_sets(graph)
    return all(v in nodes or near[v] & set(nodes) for v in range(graph.nodes))


def cover_by_eye(graph, nodes):
    return all(u in nodes or v in nodes for u, v in graph.edges)


def least_cover_by_eye(graph):
    return next(len(nodes) for nodes in subsets(range(graph.nodes)) if cover_by_eye(graph, nodes))


def copies_by_eye(graph, k):
    pairs = []
    for u, v in graph.edges:
        pairs += [(u * k + i, v * k + j) for i in range(k) for j in range(k) if i != j]
    return Graph(graph.nodes * k, sorted(pairs))


def domination_by_eye(family):
    pairs = list(combinations(range(family.size), 2))
    pairs += [(v, family.size + at) for at, one in enumerate(family.sets) for v in one]
    return Graph(family.size + len(family.sets), sorted(pairs))


def cycles_by_eye(graph):
    pairs = list(graph.edges) + [(v, graph.nodes + at) for at, pair in enumerate(graph.edges) for v in pair]
    return Graph(graph.nodes + graph.many, sorted(pairs))


def families():
    """Families with a domination graph of at most 40 nodes."""
    yield SETS
    yield Family(1, [])
    yield Family(3, [])
    yield Family(1, [(0,)])
    yield Family(5, [(0, 1, 2, 3, 4)])
    for seed in range(6):
        for sizes in ((1, 2), (2, 3), (3,)):
            yield drawn_family(5, 4, sizes, seed)


WITHOUT_GRAPH = [Family(0, []), Family(0, [()]), Family(3, [()]), Family(3, [(), (0, 1)]), Family(40, [()]),
                 Family(40, [()] + sorted(combinations(range(10), 2)))]


class NodeLists(unittest.TestCase):
    def test_each_node_list(self):
        for graph in list(all_graphs(4)) + list(drawn_graphs(7, 1)) + [KITE, clique(6), petersen().without([0, 1])]:
            whole = graph.complement()
            for nodes in subsets(range(graph.nodes)):
                independent = independent_by_eye(graph, nodes)
                others = [v for v in range(graph.nodes) if v not in nodes]
                self.assertIs(is_independent(graph, nodes), independent)
                self.assertIs(is_clique(graph, nodes), clique_by_eye(graph, nodes))
                self.assertIs(is_dominating(graph, nodes), dominating_by_eye(graph, nodes))
                self.assertEqual(other_nodes(graph, nodes), others)
                # As point 46 tells.
                self.assertIs(is_cover(graph, others), independent)
                self.assertIs(is_clique(whole, nodes), independent)
                if len(nodes) > 1:
                    for call in (is_independent, is_clique, is_dominating):
                        self.assertIs(call(graph, nodes[::-1]), False)

    def test_no_nodes(self):
        for call in (is_independent, is_clique, is_dominating):
            self.assertIs(call(Graph(0, []), []), True)
        for graph in (Graph(1, []), clique(40), Graph(40, [])):
            self.assertIs(is_independent(graph, []), True)
            self.assertIs(is_clique(graph, []), True)
            self.assertIs(is_dominating(graph, []), False)
        self.assertEqual(other_nodes(Graph(0, []), []), [])
        self.assertEqual(other_nodes(Graph(40, []), []), list(range(40)))
        self.assertEqual(other_nodes(Graph(40, []), list(range(40))), [])

    def test_values_of_all_kinds(self):
        for value in wrong_values():
            if repr(value) != "[0, 1, 2]":
                for graph in (KITE, Graph(6, []), clique(6), Graph(0, [])):
                    for call in (is_independent, is_clique, is_dominating):
                        self.assertIs(call(graph, value), False, value)
                    with self.assertRaises(BadArgument, msg=value):
                        other_nodes(graph, value)
        for value in ((0, 1, 2), {0, 1, 2}, [0, 1, 2.0], [0, True, 2], [0, 1, "2"], [2, 1, 0], [0, 0, 1], [0, 1, 6],
                      [[0, 1]]):
            for call in (is_independent, is_clique, is_dominating):
                self.assertIs(call(KITE, value), False, value)
            with self.assertRaises(BadArgument, msg=value):
                other_nodes(KITE, value)


class Copies(unittest.TestCase):
    def test_graphs(self):
        for graph in list(all_graphs(4)) + list(drawn_graphs(5, 1)) + [KITE, Graph(0, []), clique(5)]:
            for k in range(1, 9):
                if graph.nodes * k <= 40:
                    self.assertEqual(coloured_copies(graph, k), copies_by_eye(graph, k))
        self.assertEqual(coloured_copies(clique(40), 1), Graph(40, []))
        self.assertEqual(coloured_copies(Graph(2, [(0, 1)]), 2), Graph(4, [(0, 3), (1, 2)]))

    def test_coloured_cliques(self):
        for graph in list(all_graphs(3)) + list(drawn_graphs(4, 1)) + [clique(4)]:
            for k in (1, 2, 3):
                copies = copies_by_eye(graph, k)
                found = False
                for nodes in subsets(range(copies.nodes)):
                    if len(nodes) > k + 1:
                        break
                    right = sorted(v % k for v in nodes) == list(range(k)) and clique_by_eye(copies, nodes)
                    found = found or right
                    self.assertIs(is_coloured_clique(graph, k, nodes), right)
                    if right:
                        told = from_copies(graph, k, nodes)
                        self.assertEqual(told, [v // k for v in nodes])
                        self.assertTrue(clique_by_eye(graph, told))
                        self.assertEqual(len(set(told)), k)
                    else:
                        with self.assertRaises(BadArgument):
                            from_copies(graph, k, nodes)
                chosen = list(combinations(range(graph.nodes), k))
                self.assertEqual(found, any(clique_by_eye(graph, nodes) for nodes in chosen))

    def test_to_copies_and_back(self):
        for graph in list(all_graphs(4)) + [KITE, clique(5)]:
            for k in range(1, 6):
                for nodes in subsets(range(graph.nodes)):
                    if len(nodes) == k and clique_by_eye(graph, nodes):
                        told = to_copies(graph, k, nodes)
                        self.assertEqual(told, [v * k + i for i, v in enumerate(nodes)])
                        self.assertIs(is_coloured_clique(graph, k, told), True)
                        self.assertEqual(from_copies(graph, k, told), nodes)
                    else:
                        with self.assertRaises(BadArgument):
                            to_copies(graph, k, nodes)
        self.assertEqual(to_copies(clique(5), 5, [0, 1, 2, 3, 4]), [0, 6, 12, 18, 24])
        # The coloured clique needs not have the colours in the order of the nodes.
        self.assertEqual(from_copies(clique(5), 3, [2, 10, 12]), [0, 3, 4])
        self.assertEqual(to_copies(Graph(40, []), 1, [7]), [7])
        self.assertEqual(from_copies(Graph(40, []), 1, [39]), [39])

    def test_values_of_all_kinds(self):
        for value in wrong_values() + [(0, 3), {0, 3}, [3, 0], [0, 3.0], [0, "3"], [0, 3, 3], [0, 1],
                                       [0, 3, 8], [0, 12], [[0, 3]]]:
            self.assertIs(is_coloured_clique(KITE, 2, value), False, value)
            with self.assertRaises(BadArgument, msg=value):
                from_copies(KITE, 2, value)
        self.assertIs(is_coloured_clique(KITE, 2, [0, 3]), True)
        for value in wrong_values() + [(0, 1), {0, 1}, [1, 0], [0, 1.0], [0, True], [0, "1"], [0, 3], [0, 1, 2], [0],
                                       []]:
            with self.assertRaises(BadArgument, msg=value):
                to_copies(KITE, 2, value)

    def test_wrong_numbers(self):
        for k in not_numbers(1, 8) + [0, 9]:
            for graph in (KITE, Graph(0, []), clique(40)):
                for call in (coloured_copies,
                             lambda *given: to_copies(*given, [0]), lambda *given: from_copies(*given, [0]),
                             lambda *given: is_coloured_clique(*given, [0]), lambda *given: to_copies(*given, None),
                             lambda *given: from_copies(*given, None), lambda *given: is_coloured_clique(*given, None)):
                    with self.assertRaises(BadArgument, msg=k):
                        call(graph, k)

    def test_too_large(self):
        for many in range(41):
            graph = clique(many)
            for k in range(1, 9):
                if many * k > 40:
                    nodes = list(range(k))
                    with self.assertRaises(TooLarge):
                        coloured_copies(graph, k)
                    if many >= k:
                        with self.assertRaises(TooLarge):
                            to_copies(graph, k, nodes)
                    for wrong in ([], None, nodes[1:], [0, 0], list(range(k + 1)), "0"):
                        # Ahead of the size for the clique, behind it for the coloured clique.
                        with self.assertRaises(BadArgument):
                            to_copies(graph, k, wrong)
                        with self.assertRaises(TooLarge):
                            from_copies(graph, k, wrong)
                        with self.assertRaises(TooLarge):
                            is_coloured_clique(graph, k, wrong)
                else:
                    self.assertEqual(coloured_copies(graph, k).nodes, many * k)


class Dominations(unittest.TestCase):
    def test_graphs(self):
        for family in families():
            self.assertEqual(domination_graph(family), domination_by_eye(family))
        for size, many in ((40, 0), (39, 1), (20, 20), (10, 30), (1, 1)):
            family = Family(size, sorted([(v,) for v in range(size)] + list(combinations(range(size), 2)))[:many])
            self.assertEqual(domination_graph(family), domination_by_eye(family))

    def test_to_domination(self):
        for family in families():
            graph = domination_by_eye(family)
            for chosen in subsets(range(family.size)):
                if chosen and all(set(chosen) & set(one) for one in family.sets):
                    told = to_domination(family, chosen)
                    self.assertEqual(told, chosen)
                    self.assertIsNot(told, chosen)
                    self.assertTrue(dominating_by_eye(graph, told))
                else:
                    with self.assertRaises(BadArgument):
                        to_domination(family, chosen)

    def test_from_domination(self):
        for family in families():
            graph = domination_by_eye(family)
            least = None
            for nodes in subsets(range(graph.nodes)):
                if dominating_by_eye(graph, nodes):
                    least = len(nodes) if least is None else least
                    told = from_domination(family, nodes)
                    sets = [family.sets[v - family.size] for v in nodes if v >= family.size]
                    self.assertEqual(told, sorted({v for v in nodes if v < family.size} | {one[0] for one in sets}))
                    self.assertTrue(told)
                    self.assertIs(hits(family, told), True)
                else:
                    with self.assertRaises(BadArgument):
                        from_domination(family, nodes)
            self.assertEqual(least, max(1, len(least_hitting_set(family))))

    def test_values_of_all_kinds(self):
        for value in wrong_values() + [[], (0, 3), {0, 3}, [3, 0], [0, 3.0], [0, "3"], [0, 3, 3], [0, 4],
                                       [0], [[0, 3]]]:
            with self.assertRaises(BadArgument, msg=value):
                to_domination(SETS, value)
        self.assertEqual(to_domination(SETS, [0, 3]), [0, 3])
        for value in wrong_values() + [[], (0, 3), {0, 3}, [3, 0], [0, 3.0], [0, "3"], [0, 3, 3], [0, 8],
                                       [4, 5], [[0, 3]]]:
            if repr(value) != "[0, 1, 2]":
                with self.assertRaises(BadArgument, msg=value):
                    from_domination(SETS, value)
        self.assertEqual(from_domination(SETS, [0, 3]), [0, 3])
        self.assertEqual(from_domination(SETS, [4, 5, 6, 7]), [0, 1, 3])

    def test_families_without_a_domination_graph(self):
        for family in WITHOUT_GRAPH:
            with self.assertRaises(BadArgument):
                domination_graph(family)
            for value in ([], [0], [0, 1], None):
                with self.assertRaises(BadArgument):
                    to_domination(family, value)
                with self.assertRaises(BadArgument):
                    from_domination(family, value)

    def test_too_large(self):
        for size, many in ((40, 1), (39, 2), (20, 21), (11, 30), (40, 40)):
            family = Family(size, sorted([(v,) for v in range(size)] + list(combinations(range(size), 2)))[:many])
            self.assertEqual(len(family.sets), many)
            with self.assertRaises(TooLarge):
                domination_graph(family)
            with self.assertRaises(TooLarge):
                to_domination(family, list(range(size)))
            for wrong in ([], None, [size], list(range(size))):
                with self.assertRaises(TooLarge):
                    from_domination(family, wrong)
            for wrong in ([], None, [size], (0,), [size - 1, 0]):
                with self.assertRaises(BadArgument):
                    to_domination(family, wrong)


class Cycles(unittest.TestCase):
    def test_graphs(self):
        for graph in list(all_graphs(4)) + list(drawn_graphs(6, 1)) + [
                KITE, petersen(), ring(20), grid(1, 20), Graph(40, [])]:
            self.assertEqual(cycle_graph(graph), cycles_by_eye(graph))
        self.assertEqual(cycle_graph(Graph(2, [(0, 1)])), clique(3))

    def test_to_cycles(self):
        for graph in list(all_graphs(4)) + list(drawn_graphs(6, 1)) + [KITE]:
            wide = cycles_by_eye(graph)
            for nodes in subsets(range(graph.nodes)):
                if cover_by_eye(graph, nodes):
                    told = to_cycles(graph, nodes)
                    self.assertEqual(told, nodes)
                    self.assertIsNot(told, nodes)
                    self.assertTrue(forest_by_eye(wide, told))
                else:
                    with self.assertRaises(BadArgument):
                        to_cycles(graph, nodes)

    def test_from_cycles(self):
        for graph in list(all_graphs(3)) + [
                KITE.without([0]), ring(4), two_sides(1, 4), Graph(4, [(0, 1), (0, 2), (0, 3), (1, 2)])]:
            wide = cycles_by_eye(graph)
            least = None
            for nodes in subsets(range(wide.nodes)):
                if forest_by_eye(wide, nodes):
                    least = len(nodes) if least is None else least
                    told = from_cycles(graph, nodes)
                    edges = [graph.edges[v - graph.nodes] for v in nodes if v >= graph.nodes]
                    self.assertEqual(told, sorted({v for v in nodes if v < graph.nodes} | {u for u, _ in edges}))
                    self.assertTrue(cover_by_eye(graph, told))
                else:
                    with self.assertRaises(BadArgument):
                        from_cycles(graph, nodes)
            self.assertEqual(least, least_cover_by_eye(graph))

    def test_least_ones(self):
        for graph in list(all_graphs(4)) + [ring(5), ring(7), grid(2, 3)]:
            if graph.nodes + graph.many <= 14:
                told = from_cycles(graph, least_meeting(cycle_graph(graph)))
                self.assertTrue(cover_by_eye(graph, told))
                self.assertEqual(len(told), least_cover_by_eye(graph))

    def test_values_of_all_kinds(self):
        for value in wrong_values() + [[], (0, 2, 3), {0, 2, 3}, [2, 0, 3], [0, 2, 3.0], [0, 2, "3"],
                                       [0, 2], [0, 2, 3, 6], [[0, 2, 3]]]:
            with self.assertRaises(BadArgument, msg=value):
                to_cycles(KITE, value)
        self.assertEqual(to_cycles(KITE, [0, 2, 3]), [0, 2, 3])
        for value in wrong_values() + [[], (0, 2, 3), {0, 2, 3}, [2, 0, 3], [0, 2, 3.0], [0, 2, "3"],
                                       [0, 2, 3, 11], [[0, 2, 3]], [6, 10]]:
            with self.assertRaises(BadArgument, msg=value):
                from_cycles(KITE, value)
        self.assertEqual(from_cycles(KITE, [0, 2, 3]), [0, 2, 3])
        self.assertEqual(from_cycles(KITE, [1, 7, 9, 10]), [0, 1, 2, 3])

    def test_too_large(self):
        for graph in (clique(9), ring(21), Graph(40, [(0, 1)]), clique(40), apart(clique(8), clique(3))):
            whole = list(range(graph.nodes))
            with self.assertRaises(TooLarge):
                cycle_graph(graph)
            with self.assertRaises(TooLarge):
                to_cycles(graph, whole)
            for wrong in ([], None, [graph.nodes], (0,), whole):
                with self.assertRaises(TooLarge):
                    from_cycles(graph, wrong)
            for wrong in ([], None, [graph.nodes], (0,), whole[::-1]):
                with self.assertRaises(BadArgument):
                    to_cycles(graph, wrong)
        for graph in large_graphs():
            if graph.many:
                with self.assertRaises(TooLarge):
                    cycle_graph(graph)
        for graph in (clique(8), ring(20), Graph(40, []), make_graph(39, [(0, 1)])):
            self.assertEqual(cycle_graph(graph), cycles_by_eye(graph))
            self.assertIs(meets_cycles(cycle_graph(graph), to_cycles(graph, list(range(graph.nodes)))), True)


class LeftAsTheyWere(unittest.TestCase):
    def test_arguments(self):
        graph, family, nodes, chosen, pair = Graph(6, KITE.edges), Family(4, SETS.sets), [0, 2, 3], [0, 3], [0, 1]
        for call in (is_independent, is_clique, is_dominating, other_nodes, to_cycles, from_cycles):
            call(graph, nodes)
        to_copies(graph, 2, pair)
        from_copies(graph, 2, chosen)
        is_coloured_clique(graph, 2, chosen)
        for call in (to_domination, from_domination):
            call(family, chosen)
        coloured_copies(graph, 2)
        domination_graph(family)
        cycle_graph(graph)
        self.assertEqual((nodes, chosen, pair), ([0, 2, 3], [0, 3], [0, 1]))
        self.assertEqual((graph, family), (KITE, SETS))
        self.assertEqual([graph.neighbours(v) for v in range(6)], [KITE.neighbours(v) for v in range(6)])

    def test_lists_are_new(self):
        for call in (lambda: other_nodes(KITE, []), lambda: to_copies(KITE, 2, [0, 1]),
                     lambda: from_copies(KITE, 2, [0, 3]), lambda: to_domination(SETS, [0, 3]),
                     lambda: from_domination(SETS, [0, 3]), lambda: to_cycles(KITE, [0, 2, 3]),
                     lambda: from_cycles(KITE, [0, 2, 3]), lambda: cycle_graph(KITE).edges,
                     lambda: domination_graph(SETS).edges, lambda: coloured_copies(KITE, 1).edges):
            before = call()
            call().append(None)
            self.assertEqual(call(), before)
        for call, given, nodes in ((from_domination, SETS, [0, 3]), (from_cycles, KITE, [0, 2, 3])):
            self.assertIsNot(call(given, nodes), nodes)
        self.assertEqual((SETS.sets, KITE.many), ([(0, 1), (0, 2, 3), (1, 3), (3,)], 5))


if __name__ == "__main__":
    unittest.main()
