import unittest
from functools import lru_cache

from cherrystone.errors import BadArgument
from cherrystone.graphs import Graph
from cherrystone.matching import augment, deficiency, greatest_matching, is_matching, parts
from tests.samples import all_graphs, apart, clique, components_by_eye, drawn, drawn_graphs, large_graphs, near_sets
from tests.samples import path_by_eye, petersen, ring, subsets, two_sides, wrong_values

# A cycle of five nodes, one of which leads to a cycle of three; and the node 8 alone.
LAMP = Graph(9, [(0, 1), (0, 4), (1, 2), (2, 3), (3, 4), (4, 5), (5, 6), (5, 7), (6, 7)])
WRONG_MATCHINGS = [
    [()], [(0,)], [(1, 0)], [(0, 2)], [(0, 1), (1, 2)], [(0, 1), (0, 1)], [(2, 3), (0, 1)], [[0, 1]], [{0, 1}], ["01"],
    [(0, 1, 2)], [(0, 1.0)], [(0.0, 1)], [(0, True)], [(False, 1)], [(False, True)], [("0", "1")], [(0, None)],
    [(0, 9)], [(8, 9)], [(-1, 0)], [(0, 0)], [(0, 8)], [(0, 40)], [(0, 10 ** 30)], ((0, 1),), {(0, 1)}, {(0, 1): 1},
    [(0, 1), None], [(0, 1), (2,)], [(0, 1), [2, 3]], [None, (0, 1)], iter([(0, 1)]), [((0, 1), (2, 3))], [(0, [1])],
]


def matching_by_eye(edges):
    met = [v for pair in edges for v in pair]
    return len(met) == len(set(met))


def matchings(graph):
    """All matchings of a small graph."""
    return [edges for edges in subsets(graph.edges) if matching_by_eye(edges)]


def most_edges(graph, barred=()):
    """The number of edges of a greatest matching of the graph without the barred nodes, by trying all."""
    near = near_sets(graph)

    @lru_cache(None)
    def most(left):
        if not left:
            return 0
        v, others = left[0], left[1:]
        tried = [1 + most(tuple(w for w in others if w != u)) for u in others if u in near[v]]
        return max(tried + [most(others)])

    return most(tuple(v for v in range(graph.nodes) if v not in barred))


def deficiency_by_eye(graph, nodes):
    return sum(len(part) % 2 for part in components_by_eye(graph, nodes)) - len(nodes)


def odd_graphs():
    """Graphs whose greatest matchings are found through blossoms, also blossoms within blossoms."""
    yield LAMP
    yield petersen()
    yield clique(9)
    yield ring(11)
    yield ring(11, 2)
    yield two_sides(3, 7)
    yield apart(clique(3), clique(5), Graph(1, []), ring(4))
    yield Graph(12, [(0, 1), (1, 2), (1, 3), (2, 3), (3, 4), (4, 5), (4, 6), (5, 6), (6, 7), (7, 8), (7, 9), (8, 9),
                     (9, 10), (10, 11)])
    yield Graph(10, [(0, 1), (1, 2), (2, 3), (2, 4), (3, 5), (4, 6), (5, 6), (5, 7), (6, 8), (7, 8), (8, 9)])
    yield from drawn_graphs(9, 8)
    yield from drawn_graphs(12, 3)


class Matchings(unittest.TestCase):
    def test_right_matchings(self):
        for edges in ([], [(0, 1)], [(5, 7)], [(0, 1), (2, 3)], [(0, 4), (1, 2), (5, 6)]):
            self.assertIs(is_matching(LAMP, edges), True, edges)
        self.assertIs(is_matching(Graph(0, []), []), True)

    def test_each_list_of_edges(self):
        for graph in all_graphs(4):
            for edges in subsets(graph.edges):
                self.assertIs(is_matching(graph, edges), matching_by_eye(edges))
                if len(edges) > 1:
                    self.assertIs(is_matching(graph, edges[::-1]), False)

    def test_values_of_all_kinds(self):
        for value in WRONG_MATCHINGS:
            self.assertIs(is_matching(LAMP, value), False, value)
        for value in wrong_values() + WRONG_MATCHINGS:
            self.assertIs(is_matching(Graph(0, []), value), False, value)
            self.assertIs(is_matching(Graph(40, []), value), False, value)


class Deficiency(unittest.TestCase):
    def test_by_example(self):
        self.assertEqual(deficiency(LAMP, []), 1)
        self.assertEqual(deficiency(LAMP, [5]), 1)
        self.assertEqual(deficiency(LAMP, [8]), -1)
        self.assertEqual(deficiency(two_sides(2, 5), [0, 1]), 3)
        self.assertEqual(deficiency(Graph(0, []), []), 0)
        self.assertEqual(deficiency(Graph(40, []), []), 40)

    def test_against_the_components(self):
        for graph in list(all_graphs(4)) + list(drawn_graphs(7, 1)):
            for nodes in subsets(range(graph.nodes)):
                self.assertEqual(deficiency(graph, nodes), deficiency_by_eye(graph, nodes))

    def test_what_is_no_node_list(self):
        for nodes in wrong_values() + [[1, 0], [9], [8, 9], [2, 2]]:
            with self.assertRaises(BadArgument, msg=nodes):
                deficiency(LAMP, nodes)


class GreatestMatchings(unittest.TestCase):
    def shown(self, graph):
        """Checks that a matching and a barrier by point 10 are told."""
        answer = greatest_matching(graph)
        self.assertIs(type(answer), tuple)
        matching, barrier = answer
        self.assertIs(is_matching(graph, matching), True)
        self.assertEqual(barrier, sorted(set(barrier)))
        self.assertEqual(graph.nodes - 2 * len(matching), deficiency_by_eye(graph, barrier))
        return matching

    def test_against_all_matchings(self):
        for graph in list(all_graphs(5)) + list(odd_graphs()):
            self.assertEqual(len(self.shown(graph)), most_edges(graph))

    def test_large_graphs(self):
        for graph in large_graphs():
            self.shown(graph)
        for seed in range(40):
            self.shown(drawn(40, 4 + seed % 8, seed))
            self.shown(drawn(39, 4 + seed % 8, seed))

    def test_numbers_that_are_known(self):
        for graph, many in ((Graph(0, []), 0), (Graph(1, []), 0), (Graph(40, []), 0), (clique(40), 20),
                            (clique(39), 19), (ring(39), 19), (two_sides(3, 37), 3), (petersen(), 5), (LAMP, 4)):
            self.assertEqual(len(self.shown(graph)), many)

    def test_no_barrier_has_a_greater_deficiency(self):
        for graph in list(all_graphs(4)) + list(drawn_graphs(7, 1)):
            least = graph.nodes - 2 * most_edges(graph)
            self.assertEqual(max(deficiency(graph, nodes) for nodes in subsets(range(graph.nodes))), least)


class Parts(unittest.TestCase):
    def right(self, graph):
        told = parts(graph)
        self.assertIs(type(told), tuple)
        most = most_edges(graph)
        loose = [v for v in range(graph.nodes) if most_edges(graph, [v]) == most]
        near = sorted({u for v in loose for u in near_sets(graph)[v]} - set(loose))
        others = [v for v in range(graph.nodes) if v not in loose and v not in near]
        self.assertEqual(told, (loose, near, others))

    def test_by_example(self):
        self.assertEqual(parts(Graph(0, [])), ([], [], []))
        self.assertEqual(parts(Graph(3, [])), ([0, 1, 2], [], []))
        self.assertEqual(parts(Graph(2, [(0, 1)])), ([], [], [0, 1]))
        self.assertEqual(parts(clique(5)), ([0, 1, 2, 3, 4], [], []))
        self.assertEqual(parts(Graph(5, [(0, 1), (1, 2), (1, 3), (3, 4)])), ([0, 2], [1], [3, 4]))
        self.assertEqual(parts(Graph(4, [(0, 1), (0, 2), (0, 3)])), ([1, 2, 3], [0], []))

    def test_against_all_matchings(self):
        for graph in list(all_graphs(5)) + list(odd_graphs()):
            self.right(graph)

    def test_the_neighbours_are_a_barrier(self):
        for graph in large_graphs():
            loose, near, others = parts(graph)
            self.assertEqual(sorted(loose + near + others), list(range(40)))
            self.assertEqual(deficiency(graph, near), 40 - 2 * len(greatest_matching(graph)[0]))


class Augment(unittest.TestCase):
    def augmenting(self, graph, edges, path):
        """Checks that the path augments the matching, and returns what it makes of it."""
        self.assertTrue(path_by_eye(graph, path))
        self.assertEqual(len(path) % 2, 0)
        met = [v for pair in edges for v in pair]
        self.assertNotIn(path[0], met)
        self.assertNotIn(path[-1], met)
        steps = [tuple(sorted(pair)) for pair in zip(path, path[1:])]
        self.assertEqual([pair in edges for pair in steps], [k % 2 == 1 for k in range(len(steps))])
        return sorted(set(edges) ^ set(steps))

    def test_each_matching_of_small_graphs(self):
        for graph in list(all_graphs(4)) + list(drawn_graphs(6, 2)) + [LAMP]:
            most = most_edges(graph)
            for edges in matchings(graph):
                path = augment(graph, edges)
                self.assertEqual(path is None, len(edges) == most, edges)
                if path is not None:
                    self.assertEqual(len(self.augmenting(graph, edges, path)), len(edges) + 1)

    def test_from_each_step_to_a_greatest_matching(self):
        for graph in list(odd_graphs()) + list(large_graphs()) + [drawn(40, 7, seed) for seed in range(10)]:
            edges = []
            path = augment(graph, edges)
            while path is not None:
                edges = self.augmenting(graph, edges, path)
                path = augment(graph, edges)
            self.assertEqual(len(edges), len(greatest_matching(graph)[0]))

    def test_through_a_blossom_by_example(self):
        graph = Graph(8, [(0, 1), (1, 2), (2, 3), (2, 6), (3, 4), (4, 5), (5, 6), (6, 7)])
        # The only such path goes round the cycle of five nodes.
        self.assertIn(augment(graph, [(1, 2), (3, 4), (5, 6)]), ([0, 1, 2, 3, 4, 5, 6, 7], [7, 6, 5, 4, 3, 2, 1, 0]))

    def test_nothing_to_augment(self):
        for graph in (Graph(0, []), Graph(1, []), Graph(40, [])):
            self.assertIsNone(augment(graph, []))
        self.assertIsNone(augment(Graph(2, [(0, 1)]), [(0, 1)]))
        self.assertEqual(sorted(augment(Graph(2, [(0, 1)]), [])), [0, 1])

    def test_what_is_no_matching(self):
        for value in WRONG_MATCHINGS:
            with self.assertRaises(BadArgument, msg=value):
                augment(LAMP, value)
        for value in wrong_values():
            with self.assertRaises(BadArgument, msg=value):
                augment(Graph(40, []), value)


class LeftAsTheyWere(unittest.TestCase):
    def test_arguments(self):
        graph = Graph(9, LAMP.edges)
        nodes, edges = [1, 5], [(0, 1), (3, 4), (5, 6)]
        deficiency(graph, nodes)
        is_matching(graph, edges)
        augment(graph, edges)
        greatest_matching(graph)
        parts(graph)
        self.assertEqual((nodes, edges), ([1, 5], [(0, 1), (3, 4), (5, 6)]))
        self.assertEqual(graph, LAMP)
        self.assertEqual([graph.neighbours(v) for v in range(9)], [LAMP.neighbours(v) for v in range(9)])

    def test_lists_are_new(self):
        for call in (greatest_matching, parts):
            before = call(LAMP)
            for told in call(LAMP):
                told.append(None)
            self.assertEqual(call(LAMP), before)
        augment(LAMP, []).append(None)
        self.assertEqual(len(augment(LAMP, [])), 2)


if __name__ == "__main__":
    unittest.main()
