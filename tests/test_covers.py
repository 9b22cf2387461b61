import unittest
from itertools import product

from cherrystone.covers import (are_halves, cover_kernel, crown, halves, is_cover, is_crown, least_cover, lift_cover,
                                refuses_cover)
from cherrystone.errors import BadArgument, TooLarge
from cherrystone.graphs import Graph
from cherrystone.matching import is_matching
from tests.samples import all_graphs, apart, clique, drawn, drawn_graphs, grid, large_graphs, near_sets, not_numbers
from tests.samples import petersen, ring, subsets, two_sides, wrong_values

# A path of three nodes, a cycle of three nodes that it leads to, and the node 6 alone.
KITE = Graph(7, [(0, 1), (1, 2), (2, 3), (3, 4), (3, 5), (4, 5)])
STAR = Graph(5, [(0, 4), (1, 4), (2, 4), (3, 4)])
WRONG_NUMBERS = [
    [3], [-1], [True], [None], ["1"], [1.0], [[1]], [(1,)], [1, 1, 1, 1, 1, 3], [1, 1, 1, 1, 1, -1], [1] * 5 + [True],
    [2] * 5 + [False], [1] * 5 + [1.0], [1] * 5 + ["1"], [1] * 5 + [None], (1,) * 6, "111111", b"\x01" * 6,
    {0: 1, 1: 1, 2: 1, 3: 1, 4: 1, 5: 1}, {1}, [[1] * 6], [1] * 40, [10 ** 30] * 6, iter([1] * 6), range(6),
]


def cover_by_eye(graph, nodes):
    return all(u in nodes or v in nodes for u, v in graph.edges)


def least_size(graph):
    return next(len(nodes) for nodes in subsets(range(graph.nodes)) if cover_by_eye(graph, nodes))


def half_covers(graph):
    """All half covers of a small graph."""
    lists = [list(worths) for worths in product((0, 1, 2), repeat=graph.nodes)]
    return [cover for cover in lists if all(cover[u] + cover[v] >= 2 for u, v in graph.edges)]


def half_matching_by_eye(graph, worths):
    sums = [sum(worth for pair, worth in zip(graph.edges, worths) if v in pair) for v in range(graph.nodes)]
    return all(total <= 2 for total in sums)


def half_matchings(graph):
    """All half matchings of a small graph."""
    lists = [list(worths) for worths in product((0, 1, 2), repeat=graph.many)]
    return [worths for worths in lists if half_matching_by_eye(graph, worths)]


def crown_by_eye(graph, free, head, matching):
    near = near_sets(graph)
    around = {u for v in free for u in near[v]}
    met = [v for pair in matching for v in pair]
    return (len(free) > 0 and not around & set(free) and set(head) == around and set(matching) <= set(graph.edges)
            and len(set(met)) == len(met) and set(head) <= set(met)
            and all(len(set(pair) & set(free)) == 1 and len(set(pair) & set(head)) == 1 for pair in matching))


def few(graphs, most):
    return [graph for graph in graphs if graph.many <= most]


class Covers(unittest.TestCase):
    def test_right_covers(self):
        for nodes in ([1, 3, 4], [1, 2, 3, 5], [0, 2, 3, 4, 6], [0, 1, 2, 3, 4, 5, 6]):
            self.assertIs(is_cover(KITE, nodes), True, nodes)
        for graph in (Graph(0, []), Graph(1, []), Graph(40, [])):
            self.assertIs(is_cover(graph, []), True)

    def test_each_node_list(self):
        for graph in list(all_graphs(4)) + list(drawn_graphs(7, 1)):
            for nodes in subsets(range(graph.nodes)):
                self.assertIs(is_cover(graph, nodes), cover_by_eye(graph, nodes))
                if len(nodes) > 1:
                    self.assertIs(is_cover(graph, nodes[::-1]), False)

    def test_values_of_all_kinds(self):
        for value in wrong_values() + [[1, 3, 4, 7], [1, 3, 3, 4], [3, 1, 4], (1, 3, 4), {1, 3, 4}, [1, 3, "4"]]:
            self.assertIs(is_cover(KITE, value), False, value)
        for value in [(), (0,), {}, None, 0, "", [0], [None]]:
            self.assertIs(is_cover(Graph(0, []), value), False, value)


class Halves(unittest.TestCase):
    def test_right_halves(self):
        for graph, cover, matching in ((KITE, [0, 2, 0, 2, 1, 1, 0], [2, 0, 2, 0, 0, 2]), (Graph(0, []), [], []),
                                       (Graph(2, []), [0, 0], []), (clique(3), [1, 1, 1], [1, 1, 1]),
                                       (STAR, [0, 0, 0, 0, 2], [1, 0, 1, 0]), (STAR, [0, 0, 0, 0, 2], [0, 2, 0, 0]),
                                       (ring(4), [0, 2, 0, 2], [1, 1, 1, 1]), (ring(4), [1, 1, 1, 1], [2, 0, 0, 2])):
            self.assertIs(are_halves(graph, cover, matching), True, (cover, matching))

    def test_what_are_no_halves(self):
        for graph, cover, matching in ((STAR, [0, 0, 0, 0, 2], [1, 0, 0, 0]), (STAR, [1, 1, 1, 1, 1], [1, 0, 1, 0]),
                                       (STAR, [0, 0, 0, 0, 1], [1, 0, 0, 0]), (STAR, [1, 1, 1, 1, 0], [1, 1, 1, 1]),
                                       (STAR, [0, 1, 1, 1, 1], [1, 1, 1, 1]), (clique(3), [0, 0, 0], [0, 0, 0]),
                                       (clique(3), [2, 2, 0], [2, 1, 1]), (Graph(2, []), [0, 1], [])):
            self.assertIs(are_halves(graph, cover, matching), False, (cover, matching))

    def test_each_pair_of_small_graphs(self):
        for graph in few(all_graphs(4), 4):
            worths = [list(one) for one in product((0, 1, 2), repeat=graph.many)]
            for cover in product((0, 1, 2), repeat=graph.nodes):
                half = all(cover[u] + cover[v] >= 2 for u, v in graph.edges)
                for matching in worths[::1 if graph.many < 3 else 7]:
                    right = half and half_matching_by_eye(graph, matching) and sum(cover) == sum(matching)
                    self.assertIs(are_halves(graph, list(cover), matching), right)

    def test_values_of_all_kinds(self):
        matching, cover = [2, 0, 2, 0, 0, 2], [0, 2, 0, 2, 1, 1, 0]
        for value in wrong_values() + WRONG_NUMBERS:
            self.assertIs(are_halves(KITE, cover, value), False, value)
            self.assertIs(are_halves(KITE, value, matching), False, value)
            self.assertIs(are_halves(KITE, value, value), False, value)
        for value in ((), {}, None, "", [0], [2]):
            self.assertIs(are_halves(Graph(0, []), value, []), False, value)
            self.assertIs(are_halves(Graph(0, []), [], value), False, value)

    def test_sums_are_equal(self):
        for graph in list(all_graphs(5)) + list(drawn_graphs(11, 5)) + list(large_graphs()) + [petersen()]:
            answer = halves(graph)
            self.assertIs(type(answer), tuple)
            cover, matching = answer
            self.assertEqual((len(cover), len(matching)), (graph.nodes, graph.many))
            self.assertTrue(set(cover + matching) <= {0, 1, 2})
            self.assertTrue(all(cover[u] + cover[v] >= 2 for u, v in graph.edges))
            self.assertTrue(half_matching_by_eye(graph, matching))
            self.assertEqual(sum(cover), sum(matching))
            self.assertIs(are_halves(graph, cover, matching), True)

    def test_against_all_half_covers(self):
        for graph in list(all_graphs(4)) + list(drawn_graphs(7, 1)):
            cover, _ = halves(graph)
            self.assertEqual(sum(cover), min(sum(other) for other in half_covers(graph)))
            self.assertLessEqual(sum(cover), 2 * least_size(graph))
        for graph in few(all_graphs(4), 5):
            self.assertEqual(sum(halves(graph)[1]), max(sum(other) for other in half_matchings(graph)))


class Kernels(unittest.TestCase):
    def right(self, graph, k):
        """Checks what point 13 tells of the kernel, and returns it."""
        kernel = cover_kernel(graph, k)
        total = sum(halves(graph)[0])
        self.assertEqual(kernel is None, total > 2 * k)
        if kernel is None:
            self.assertIs(refuses_cover(graph, k, halves(graph)[1]), True)
            return None
        self.assertIs(type(kernel), tuple)
        small, nodes, forced, rest = kernel
        for told in (nodes, forced):
            self.assertEqual(told, sorted(set(told)))
            self.assertTrue(set(told) <= set(range(graph.nodes)))
        self.assertFalse(set(nodes) & set(forced))
        self.assertEqual(small, graph.induced(nodes))
        self.assertTrue(all(set(pair) <= set(nodes) or set(pair) & set(forced) for pair in graph.edges))
        self.assertEqual(rest, k - len(forced))
        self.assertLessEqual(small.nodes, 2 * rest)
        return kernel

    def test_small_graphs_and_each_parameter(self):
        for graph in list(all_graphs(4)) + list(drawn_graphs(8, 2)) + [KITE, STAR, petersen()]:
            least = least_size(graph)
            for k in range(graph.nodes + 2):
                kernel = self.right(graph, k)
                if kernel is None:
                    self.assertGreater(least, k)
                    continue
                small, _, forced, rest = kernel
                # For each number c, so the least covers differ just by the forced nodes.
                self.assertEqual(least_size(small) + len(forced), least)
                self.assertEqual(least <= k, least_size(small) <= rest)

    def test_parameters_0_1_and_40(self):
        for graph in list(all_graphs(4)) + list(large_graphs()):
            for k in (0, 1, 2, 19, 20, 39, 40):
                self.right(graph, k)
        self.assertEqual(cover_kernel(Graph(0, []), 0), (Graph(0, []), [], [], 0))
        self.assertEqual(cover_kernel(Graph(0, []), 40), (Graph(0, []), [], [], 40))
        self.assertEqual(cover_kernel(Graph(40, []), 0)[3], 0)
        self.assertIsNone(cover_kernel(Graph(2, [(0, 1)]), 0))
        self.assertIsNone(cover_kernel(clique(3), 1))
        self.assertIsNotNone(cover_kernel(clique(3), 2))

    def test_lifted_covers(self):
        for graph in list(all_graphs(4)) + list(drawn_graphs(8, 1)) + [KITE, STAR, petersen()]:
            kernel = cover_kernel(graph, 40)
            small, nodes, forced, _ = kernel
            for chosen in subsets(range(small.nodes)):
                if cover_by_eye(small, chosen):
                    told = lift_cover(graph, kernel, chosen)
                    self.assertEqual(told, sorted(forced + [nodes[v] for v in chosen]))
                    self.assertTrue(cover_by_eye(graph, told))
                    if len(chosen) == least_size(small):
                        self.assertEqual(len(told), least_size(graph))
                else:
                    with self.assertRaises(BadArgument):
                        lift_cover(graph, kernel, chosen)

    def test_lift_takes_covers_alone(self):
        graph = apart(STAR, ring(5))
        kernel = cover_kernel(graph, 10)
        for value in wrong_values() + [[0, 1, 2, 3, 4, 40], [4, 3, 2, 1, 0], (0, 1, 2, 3, 4), [0, 0, 1, 2, 3, 4], []]:
            with self.assertRaises(BadArgument, msg=value):
                lift_cover(graph, kernel, value)

    def test_wrong_parameters(self):
        for k in not_numbers(0, 40):
            for graph in (KITE, Graph(0, [])):
                with self.assertRaises(BadArgument, msg=k):
                    cover_kernel(graph, k)
                for matching in ([0] * graph.many, None, [9]):
                    with self.assertRaises(BadArgument, msg=k):
                        refuses_cover(graph, k, matching)


class Papers(unittest.TestCase):
    def test_each_half_matching(self):
        for graph in few(all_graphs(4), 5) + [ring(5)]:
            least = least_size(graph)
            for matching in product((0, 1, 2), repeat=graph.many):
                half = half_matching_by_eye(graph, matching)
                for k in range(5):
                    refused = refuses_cover(graph, k, list(matching))
                    self.assertIs(refused, half and sum(matching) > 2 * k)
                    self.assertFalse(refused and least <= k)

    def test_large_graphs(self):
        for graph in large_graphs():
            cover, matching = halves(graph)
            for k in range(41):
                self.assertIs(refuses_cover(graph, k, matching), sum(cover) > 2 * k)

    def test_values_of_all_kinds(self):
        for value in wrong_values() + WRONG_NUMBERS + [[2] * 6, [2, 2, 0, 0, 0, 2], [2, 0, 2, 0, 0]]:
            for k in (0, 1, 40):
                self.assertIs(refuses_cover(KITE, k, value), False, value)
        self.assertIs(refuses_cover(Graph(0, []), 0, []), False)
        self.assertIs(refuses_cover(KITE, 2, [2, 0, 2, 0, 0, 2]), True)
        self.assertIs(refuses_cover(KITE, 3, [2, 0, 2, 0, 0, 2]), False)


class LeastCovers(unittest.TestCase):
    def test_against_all_node_lists(self):
        for graph in list(all_graphs(5)) + list(drawn_graphs(9, 3)) + [KITE, STAR, petersen(), grid(3, 4)]:
            told = least_cover(graph)
            self.assertEqual(told, sorted(set(told)))
            self.assertTrue(cover_by_eye(graph, told))
            self.assertEqual(len(told), least_size(graph))

    def test_14_nodes(self):
        for graph, size in ((Graph(14, []), 0), (clique(14), 13), (ring(14), 7), (two_sides(7, 7), 7),
                            (two_sides(2, 12), 2), (ring(14, 3), 11), (apart(*[clique(2)] * 7), 7)):
            self.assertEqual(len(least_cover(graph)), size)
        for graph in drawn_graphs(14, 1):
            told = least_cover(graph)
            self.assertTrue(cover_by_eye(graph, told))
            self.assertEqual(len(told), least_size(graph))

    def test_more_than_14_nodes(self):
        for graph in (Graph(15, []), clique(15), Graph(15, [(0, 1)])) + tuple(large_graphs()):
            with self.assertRaises(TooLarge):
                least_cover(graph)


class Crowns(unittest.TestCase):
    def test_right_crowns(self):
        for graph, free, head, matching in ((STAR, [0, 1, 2, 3], [4], [(0, 4)]), (STAR, [2], [4], [(2, 4)]),
                                            (STAR, [1, 3], [4], [(3, 4)]), (KITE, [6], [], []),
                                            (KITE, [0, 2], [1, 3], [(0, 1), (2, 3)]), (KITE, [0], [1], [(0, 1)]),
                                            (two_sides(2, 3), [2, 3, 4], [0, 1], [(0, 4), (1, 2)]),
                                            (Graph(2, [(0, 1)]), [1], [0], [(0, 1)])):
            self.assertIs(is_crown(graph, free, head, matching), True, (free, head, matching))

    def test_what_are_no_crowns(self):
        for graph, free, head, matching in ((STAR, [], [], []), (STAR, [4], [0, 1, 2, 3], [(0, 4)]),
                                            (STAR, [0, 4], [1, 2, 3], []), (STAR, [0, 1], [4], []),
                                            (STAR, [0, 1], [4], [(2, 4)]), (STAR, [0, 1], [3, 4], [(0, 4)]),
                                            (KITE, [0, 2], [1], [(0, 1)]), (KITE, [6], [5], []),
                                            (KITE, [0, 2], [1, 3], [(0, 1)]), (KITE, [4], [3, 5], [(3, 4)]),
                                            (KITE, [0], [1], [(0, 1), (2, 3)]), (KITE, [4, 5], [3], [(3, 4)]),
                                            (KITE, [0, 2], [1, 3], [(0, 1), (3, 4)]), (KITE, [0], [1], [(1, 2)]),
                                            (two_sides(2, 3), [2, 3], [0, 1], [(0, 2), (1, 2)]),
                                            (Graph(0, []), [], [], [])):
            self.assertIs(is_crown(graph, free, head, matching), False, (free, head, matching))

    def test_all_of_small_graphs(self):
        for graph in few(all_graphs(4), 4):
            lists = list(subsets(range(graph.nodes)))
            for free in lists:
                for head in lists:
                    for matching in subsets(graph.edges):
                        right = crown_by_eye(graph, free, head, matching)
                        self.assertIs(is_crown(graph, free, head, matching), right)

    def test_values_of_all_kinds(self):
        for value in wrong_values():
            if value != [0]:
                self.assertIs(is_crown(STAR, value, [4], [(0, 4)]), False, value)
            self.assertIs(is_crown(STAR, [0], value, [(0, 4)]), False, value)
            self.assertIs(is_crown(STAR, [0], [4], value), False, value)
            self.assertIs(is_crown(STAR, value, value, value), False, value)
        for matching in ([(4, 0)], [[0, 4]], ((0, 4),), {(0, 4)}, [(0, 4.0)], [(False, 4)], [(0, 4), (0, 4)], None):
            self.assertIs(is_crown(STAR, [0], [4], matching), False, matching)
        self.assertIs(is_crown(STAR, (0,), [4], [(0, 4)]), False)
        self.assertIs(is_crown(STAR, [0.0], [4], [(0, 4)]), False)
        self.assertIs(is_crown(STAR, [0], [4.0], [(0, 4)]), False)
        self.assertIs(is_crown(KITE, [0], [True], [(0, 1)]), False)
        self.assertIs(is_crown(KITE, [False], [1], [(0, 1)]), False)
        self.assertIs(is_crown(STAR, [0], (4,), [(0, 4)]), False)
        self.assertIs(is_crown(STAR, [1, 0], [4], [(0, 4)]), False)
        self.assertIs(is_crown(two_sides(2, 3), [2, 3, 4], [1, 0], [(0, 4), (1, 2)]), False)

    def right(self, graph):
        """Checks that what is told is a crown, and returns it."""
        told = crown(graph)
        if told is not None:
            self.assertIs(type(told), tuple)
            free, head, matching = told
            self.assertTrue(crown_by_eye(graph, free, head, matching))
            self.assertEqual((free, head), (sorted(free), sorted(head)))
            self.assertIs(is_matching(graph, matching), True)
            self.assertIs(is_crown(graph, free, head, matching), True)
        return told

    def test_none_exactly_if_1_is_the_only_least_half_cover(self):
        for graph in list(all_graphs(5)) + list(drawn_graphs(7, 2)):
            sums = [sum(cover) for cover in half_covers(graph)]
            alone = min(sums) == graph.nodes and sums.count(graph.nodes) == 1
            self.assertEqual(self.right(graph) is None, alone, graph.edges)

    def test_some_least_cover_contains_the_head_and_nothing_free(self):
        for graph in list(all_graphs(4)) + list(drawn_graphs(8, 3)):
            told = self.right(graph)
            if told is not None:
                free, head, _ = told
                least = least_size(graph)
                self.assertTrue(any(len(nodes) == least and cover_by_eye(graph, nodes) and set(head) <= set(nodes)
                                    and not set(free) & set(nodes) for nodes in subsets(range(graph.nodes))))

    def test_large_graphs(self):
        for graph in large_graphs():
            self.right(graph)
        for graph, there in ((Graph(0, []), False), (Graph(1, []), True), (Graph(40, []), True), (clique(40), False),
                             (ring(39), False), (ring(40), True), (two_sides(20, 20), True), (two_sides(3, 37), True),
                             (clique(2), True), (clique(3), False), (drawn(40, 95, 1), False)):
            self.assertEqual(self.right(graph) is not None, there)


class LeftAsTheyWere(unittest.TestCase):
    def test_arguments(self):
        graph = Graph(7, KITE.edges)
        nodes, cover, matching = [1, 3, 4], [0, 2, 0, 2, 1, 1, 0], [2, 0, 2, 0, 0, 2]
        kernel = cover_kernel(apart(STAR, ring(5)), 9)
        before = (Graph(kernel[0].nodes, kernel[0].edges), list(kernel[1]), list(kernel[2]), kernel[3])
        chosen = list(range(kernel[0].nodes))
        lift_cover(apart(STAR, ring(5)), kernel, chosen)
        self.assertEqual((kernel, chosen), (before, list(range(kernel[0].nodes))))
        is_cover(graph, nodes)
        are_halves(graph, cover, matching)
        refuses_cover(graph, 2, matching)
        is_crown(graph, nodes, nodes, [(0, 1)])
        for call in (halves, crown, least_cover):
            call(graph)
        self.assertEqual((nodes, cover, matching), ([1, 3, 4], [0, 2, 0, 2, 1, 1, 0], [2, 0, 2, 0, 0, 2]))
        self.assertEqual(graph, KITE)

    def test_lists_are_new(self):
        for call in (halves, crown, lambda graph: cover_kernel(graph, 9)[1:3], lambda graph: (least_cover(graph),)):
            before = call(KITE)
            for told in call(KITE):
                told.append(None)
            self.assertEqual(call(KITE), before)
        kernel = cover_kernel(KITE, 9)
        lift_cover(KITE, kernel, list(range(kernel[0].nodes))).append(None)
        self.assertEqual(kernel, cover_kernel(KITE, 9))
        lone = cover_kernel(STAR, 1)
        self.assertIsNot(lift_cover(STAR, lone, []), lone[2])


if __name__ == "__main__":
    unittest.main()
