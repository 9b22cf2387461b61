import random
import unittest
from itertools import combinations, product
from math import comb

from cherrystone.colourful import (colourful_count, colourful_path, is_colourful, is_colouring, is_separating,
                                   lift_path,
                                   longest_path, path_kernel, path_or_paper, refuses_path, separating_family)
from cherrystone.errors import BadArgument, TooLarge
from cherrystone.graphs import Graph
from tests.samples import all_graphs, apart, clique, drawn, drawn_graphs, grid, large_graphs, near_sets, not_numbers
from tests.samples import orders, path_by_eye, petersen, ring, subsets, two_sides, wrong_values

# A path of four nodes, a cycle of three nodes at its end, and the node 6 alone.
KITE = Graph(7, [(0, 1), (1, 2), (2, 3), (3, 4), (3, 5), (4, 5)])


def colourings(n, k):
    return [list(colours) for colours in product(range(k), repeat=n)]


def paths_by_eye(graph, k):
    """All paths with k nodes, from either end."""
    near = near_sets(graph)
    paths = [[v] for v in range(graph.nodes)]
    for _ in range(k - 1):
        paths = [path + [v] for path in paths for v in sorted(near[path[-1]]) if v not in path]
    return paths


def colourful_by_eye(graph, colouring, k):
    return [path for path in paths_by_eye(graph, k) if len({colouring[v] for v in path}) == k]


def longest_by_eye(graph):
    size = 0
    while paths_by_eye(graph, size + 1):
        size += 1
    return size


def separating_by_eye(n, k, family):
    return all(any(len({colours[v] for v in chosen}) == k for colours in family) for chosen in combinations(range(n),
                                                                                                            k))


def most_colourings(n, k):
    b = 0
    while 2 ** b < n:
        b += 1
    return k * 3 ** k * (b + 1)


def bounds():
    """All numbers of nodes and of colours, and whether there are few enough sets."""
    return [(n, k, comb(n, k) <= 2000) for n in range(41) for k in range(1, 8)]


class Colourings(unittest.TestCase):
    def test_right_ones(self):
        for n in range(4):
            for k in range(1, 8):
                for colours in colourings(n, k):
                    self.assertIs(is_colouring(n, k, colours), True)
        self.assertIs(is_colouring(40, 7, [v % 7 for v in range(40)]), True)
        self.assertIs(is_colouring(40, 1, [0] * 40), True)
        self.assertIs(is_colouring(0, 1, []), True)

    def test_wrong_ones(self):
        for n, k, colours in ((2, 2, [0, 2]), (2, 2, [0]), (2, 2, [0, 1, 0]), (2, 2, []), (2, 1, [0, 1]), (0, 3, [0]),
                              (2, 2, [-1, 0]), (2, 2, (0, 1)), (2, 2, [True, 0]), (2, 2, [0, False]), (2, 2, [0, 1.0]),
                              (2, 2, [0, "1"]), (2, 2, [0, None]), (2, 2, {0: 0, 1: 1}), (2, 2, "01"), (2, 2, b"\0\1"),
                              (2, 7, [0, 7]), (2, 2, [[0], [1]]), (2, 2, iter([0, 1])), (2, 2, {0, 1})):
            self.assertIs(is_colouring(n, k, colours), False, colours)
        for value in wrong_values():
            self.assertIs(is_colouring(5, 7, value), False, value)

    def test_wrong_bounds(self):
        for value in not_numbers(0, 40) + [41]:
            for colours in ([], None, [0]):
                with self.assertRaises(BadArgument, msg=value):
                    is_colouring(value, 1, colours)
        for value in not_numbers(1, 7) + [0, 8]:
            for colours in ([], None):
                with self.assertRaises(BadArgument, msg=value):
                    is_colouring(0, value, colours)


class ColourfulPaths(unittest.TestCase):
    def test_tested(self):
        for graph in list(drawn_graphs(4, 1)) + [ring(4), clique(4)]:
            for k in range(1, 4):
                for colours in colourings(4, k):
                    right = colourful_by_eye(graph, colours, k)
                    for walk in orders(range(4)):
                        self.assertIs(is_colourful(graph, colours, k, walk), walk in right)

    def test_values_of_all_kinds(self):
        colours = [0, 1, 2, 0, 1, 2, 0]
        self.assertIs(is_colourful(KITE, colours, 3, [0, 1, 2]), True)
        self.assertIs(is_colourful(KITE, colours, 3, [5, 4, 3]), True)
        for value in wrong_values() + [(3, 4, 5), [3, 4, 5.0], [3, 4, "5"], [1, 2, 3, 4], [4, 3], [2, 3, 5], [3, 4, 7]]:
            self.assertIs(is_colourful(KITE, colours, 3, value), False, value)
        self.assertIs(is_colourful(KITE, colours, 3, [0, True, 2]), False)
        self.assertIs(is_colourful(KITE, colours, 3, [False, 1, 2]), False)

    def right(self, graph, colours, k):
        """Checks what is told against all paths."""
        paths = colourful_by_eye(graph, colours, k)
        path = colourful_path(graph, colours, k)
        self.assertEqual(colourful_count(graph, colours, k), len(paths))
        if paths:
            self.assertIn(path, paths)
            self.assertIs(is_colourful(graph, colours, k, path), True)
        else:
            self.assertIsNone(path)

    def test_all_colourings(self):
        for graph in list(all_graphs(3)) + list(drawn_graphs(5, 1)) + [ring(5), clique(5)]:
            for k in range(1, 4):
                for colours in colourings(graph.nodes, k):
                    self.right(graph, colours, k)

    def test_drawn_colourings(self):
        source = random.Random(5)
        for graph in list(drawn_graphs(9, 2)) + [petersen(), clique(8), grid(3, 3), ring(9), KITE]:
            for k in range(1, 8):
                for _ in range(4):
                    self.right(graph, [source.randrange(k) for _ in range(graph.nodes)], k)

    def test_known_numbers(self):
        self.assertEqual(colourful_count(clique(7), [0, 1, 2, 3, 4, 5, 6], 7), 5040)
        self.assertEqual(colourful_count(clique(7), [0] * 7, 7), 0)
        self.assertEqual(colourful_count(Graph(40, []), [0] * 40, 1), 40)
        self.assertEqual(colourful_count(Graph(40, []), [0] * 40, 2), 0)
        self.assertEqual(colourful_count(Graph(0, []), [], 1), 0)
        self.assertIsNone(colourful_path(Graph(0, []), [], 1))
        self.assertEqual(colourful_path(Graph(1, []), [0], 1), [0])
        self.assertEqual(colourful_count(ring(40), [v % 2 for v in range(40)], 2), 80)
        self.assertEqual(colourful_count(ring(40), [v % 5 for v in range(40)], 5), 80)
        # Five colours have 6 nodes, and two have 5; their order is free.
        self.assertEqual(colourful_count(clique(40), [v % 7 for v in range(40)], 7), 6 ** 5 * 5 ** 2 * 5040)

    def test_what_they_do_not_take(self):
        for value in (0, 8, True, None):
            with self.assertRaises(BadArgument, msg=value):
                is_colourful(KITE, [0] * 7, value, [0])
        for value in ([0] * 6, [3] + [0] * 6, None):
            with self.assertRaises(BadArgument, msg=value):
                is_colourful(KITE, value, 3, [0])
        for call in (colourful_path, colourful_count):
            for value in not_numbers(1, 7) + [0, 8]:
                with self.assertRaises(BadArgument, msg=value):
                    call(KITE, [0] * 7, value)
            for value in wrong_values() + [[0] * 6, [0] * 8, (0,) * 7, [3] + [0] * 6, [0] * 6 + [-1], [0] * 6 + [True]]:
                with self.assertRaises(BadArgument, msg=value):
                    call(KITE, value, 3)


class SeparatingFamilies(unittest.TestCase):
    def test_each_number_of_nodes_and_colours(self):
        for n, k, few in bounds():
            if not few:
                with self.assertRaises(TooLarge):
                    separating_family(n, k)
                with self.assertRaises(TooLarge):
                    is_separating(n, k, [])
                continue
            family = separating_family(n, k)
            self.assertIs(type(family), list)
            self.assertLessEqual(len(family), most_colourings(n, k))
            for colours in family:
                self.assertIs(is_colouring(n, k, colours), True)
            self.assertTrue(separating_by_eye(n, k, family))
            self.assertIs(is_separating(n, k, family), True)

    def test_tested_against_all_sets(self):
        for n in range(5):
            for k in range(1, 4):
                family = colourings(n, k)
                for some in list(combinations(family, 1)) + list(combinations(family, 2))[::7] + [()]:
                    told = is_separating(n, k, list(some))
                    self.assertIs(told, separating_by_eye(n, k, some))
        source = random.Random(6)
        for _ in range(300):
            n, k = source.randrange(8), source.randrange(1, 6)
            family = [[source.randrange(k) for _ in range(n)] for _ in range(source.randrange(30))]
            self.assertIs(is_separating(n, k, family), separating_by_eye(n, k, family))

    def test_one_set_missing(self):
        for n, k in ((5, 2), (9, 3), (7, 7), (12, 6)):
            family = separating_family(n, k)
            last = family.pop()
            self.assertIs(is_separating(n, k, family), separating_by_eye(n, k, family))
            self.assertIs(is_separating(n, k, family + [last, last]), True)

    def test_less_nodes_than_colours(self):
        for n, k, _ in bounds():
            if n < k:
                self.assertIs(is_separating(n, k, []), True)
                self.assertIs(is_separating(n, k, [[0] * n]), True)
                self.assertIs(is_separating(n, k, [[0] * n, [k - 1] * n]), True)
                self.assertIs(is_separating(n, k, [[0] * (n + 1)]), False)
                self.assertIs(is_separating(n, k, [[k] * n]), n == 0)
                self.assertIs(is_separating(n, k, None), False)
                self.assertLessEqual(len(separating_family(n, k)), most_colourings(n, k))

    def test_values_of_all_kinds(self):
        right = [[0, 1, 0], [0, 0, 1]]
        self.assertIs(is_separating(3, 2, right), True)
        for value in wrong_values() + [tuple(right), [(0, 1, 0), (0, 0, 1)], {0: right}, iter(right), [right], "010"]:
            self.assertIs(is_separating(3, 2, value), False, value)
            if repr(value) not in ("[0, 1, 0]", "[0, 1, 1]"):
                self.assertIs(is_separating(3, 2, right + [value]), False, value)
        for spoilt in ([0, 1, 2], [0, 1], [0, 1, 0, 0], [0, True, 0], [0, 1.0, 0], ["0", "1", "0"], [-1, 0, 1]):
            self.assertIs(is_separating(3, 2, right + [spoilt]), False, spoilt)

    def test_too_large_whatever_else_is_given(self):
        for n, k in ((40, 3), (24, 3), (17, 4), (14, 5), (14, 6), (14, 7), (40, 7)):
            for value in wrong_values() + [[], [[0] * n]]:
                with self.assertRaises(TooLarge):
                    is_separating(n, k, value)
        for n, k in ((40, 2), (23, 3), (16, 4), (13, 5), (13, 6), (13, 7), (40, 1)):
            self.assertIs(is_separating(n, k, None), False)

    def test_wrong_bounds(self):
        for value in not_numbers(0, 40) + [41]:
            with self.assertRaises(BadArgument, msg=value):
                separating_family(value, 1)
            with self.assertRaises(BadArgument, msg=value):
                is_separating(value, 1, [])
        for value in not_numbers(1, 7) + [0, 8]:
            for n in (0, 40):
                with self.assertRaises(BadArgument, msg=value):
                    separating_family(n, value)
                with self.assertRaises(BadArgument, msg=value):
                    is_separating(n, value, None)


class PathsOrPapers(unittest.TestCase):
    def right(self, graph, k):
        answer = path_or_paper(graph, k)
        self.assertIs(type(answer), tuple)
        word, told = answer
        paths = paths_by_eye(graph, k)
        if paths:
            self.assertEqual(word, "path")
            self.assertIn(told, paths)
            self.assertIs(refuses_path(graph, k, separating_family(graph.nodes, k)), False)
        else:
            self.assertEqual(word, "paper")
            self.assertIs(is_separating(graph.nodes, k, told), True)
            self.assertIs(refuses_path(graph, k, told), True)

    def test_small_graphs(self):
        for graph in list(all_graphs(4)) + list(drawn_graphs(6, 3)) + [KITE, grid(2, 3), two_sides(1, 6),
                                                                       two_sides(2, 5)]:
            for k in range(1, 8):
                self.right(graph, k)

    def test_more_nodes(self):
        for k in range(1, 8):
            for graph in (clique(13), ring(13), grid(3, 4), two_sides(2, 11), two_sides(3, 10), Graph(13, []),
                          apart(clique(6), clique(6)), apart(ring(4), ring(4), ring(5)), drawn(13, 12, 1)):
                word, told = path_or_paper(graph, k)
                if word == "path":
                    self.assertTrue(path_by_eye(graph, told))
                    self.assertEqual(len(told), k)
                else:
                    self.assertIs(refuses_path(graph, k, told), True)
                    self.assertLess(len(longest_path(graph)), k)
        for graph in large_graphs():
            self.assertEqual(len(path_or_paper(graph, 1)[1]), 1)
            self.assertEqual(path_or_paper(graph, 2)[0], "path" if graph.many else "paper")

    def test_spoilt_papers(self):
        graph = apart(clique(3), clique(3), Graph(1, []))
        paper = path_or_paper(graph, 4)[1]
        self.assertIs(refuses_path(graph, 4, paper), True)
        for at in range(len(paper)):
            fewer = paper[:at] + paper[at + 1:]
            self.assertIs(refuses_path(graph, 4, fewer), separating_by_eye(7, 4, fewer))
        # A path shows only where its nodes have different colours.
        line = grid(1, 4)
        self.assertIs(refuses_path(line, 4, []), False)
        self.assertIs(refuses_path(line, 4, [[0, 0, 1, 2]]), False)
        self.assertIs(refuses_path(line, 4, [[0, 1, 2, 3]]), False)
        for value in wrong_values() + [[], tuple(paper), paper + [[0] * 6], paper + [[4] * 7], paper + [(0,) * 7],
                                       paper + [None], [paper], {0: paper}, ("paper", paper)]:
            self.assertIs(refuses_path(graph, 4, value), False, value)

    def test_never_where_there_is_a_path(self):
        for graph in list(all_graphs(4)) + [KITE.without([6])]:
            for k in range(1, 5):
                family = colourings(graph.nodes, k) if graph.nodes < 5 else separating_family(graph.nodes, k)
                self.assertIs(refuses_path(graph, k, family), not paths_by_eye(graph, k))
                for some in (family[::2], family[1:], family[-1:]):
                    if paths_by_eye(graph, k):
                        self.assertIs(refuses_path(graph, k, some), False)

    def test_less_nodes_than_k(self):
        self.assertEqual(path_or_paper(Graph(0, []), 1)[0], "paper")
        for k in range(2, 8):
            graph = clique(k - 1)
            self.right(graph, k)
            self.assertIs(refuses_path(graph, k, []), True)
            self.assertIs(refuses_path(graph, k, [[0] * (k - 1)]), True)
            self.assertIs(refuses_path(graph, k, [[0] * k]), False)

    def test_too_large_and_wrong_numbers(self):
        for n, k, few in bounds():
            if not few:
                for graph in (Graph(n, []), clique(n)):
                    with self.assertRaises(TooLarge):
                        path_or_paper(graph, k)
                    for value in ([], None, [[0] * n], "paper"):
                        with self.assertRaises(TooLarge):
                            refuses_path(graph, k, value)
        for k in not_numbers(1, 7) + [0, 8]:
            for graph in (KITE, Graph(0, []), clique(40)):
                with self.assertRaises(BadArgument, msg=k):
                    path_or_paper(graph, k)
                for value in ([], None):
                    with self.assertRaises(BadArgument, msg=k):
                        refuses_path(graph, k, value)


class LongestPaths(unittest.TestCase):
    def right(self, graph):
        told = longest_path(graph)
        if graph.nodes:
            self.assertTrue(path_by_eye(graph, told))
        return len(told)

    def test_against_all_paths(self):
        for graph in list(all_graphs(5)) + list(drawn_graphs(7, 4)) + [KITE, petersen().without([0])]:
            self.assertEqual(self.right(graph), longest_by_eye(graph))

    def test_13_nodes(self):
        for graph, size in ((Graph(13, []), 1), (clique(13), 13), (ring(13), 13), (two_sides(1, 12), 3),
                            (two_sides(3, 10), 7), (two_sides(6, 7), 13), (grid(3, 4), 12), (petersen(), 10),
                            (apart(clique(5), clique(8)), 8), (grid(1, 13), 13)):
            self.assertEqual(self.right(graph), size)
        for seed in range(3):
            graph = drawn(13, 15, seed)
            self.assertEqual(self.right(graph), longest_by_eye(graph))

    def test_no_nodes(self):
        self.assertEqual(longest_path(Graph(0, [])), [])

    def test_more_than_13_nodes(self):
        for graph in (Graph(14, []), clique(14), ring(14)) + tuple(large_graphs()):
            with self.assertRaises(TooLarge):
                longest_path(graph)


def kernel_by_eye(graph, cover):
    near, c = near_sets(graph), len(cover)
    others = [v for v in range(graph.nodes) if v not in cover]
    kept = set(cover) | set(others[:1])
    for u in cover:
        kept |= set([v for v in others if v in near[u]][:c + 1])
    for u, w in combinations(cover, 2):
        kept |= set([v for v in others if v in near[u] and v in near[w]][:c + 1])
    return sorted(kept)


def covers_of(graph):
    return [nodes for nodes in subsets(range(graph.nodes)) if all(u in nodes or v in nodes for u, v in graph.edges)]


class Kernels(unittest.TestCase):
    def right(self, graph, cover):
        """Checks that the kernel is exactly that of point 29, and returns its graph."""
        kernel = path_kernel(graph, cover)
        self.assertIs(type(kernel), tuple)
        small, nodes = kernel
        c = len(cover)
        self.assertEqual(nodes, kernel_by_eye(graph, cover))
        self.assertEqual(small, graph.induced(nodes))
        self.assertLessEqual(small.nodes, c + 1 + (c + 1) * (c + c * (c - 1) // 2))
        return small

    def test_all_covers_of_small_graphs(self):
        for graph in list(all_graphs(5)) + [KITE]:
            longest = longest_by_eye(graph)
            for cover in covers_of(graph):
                self.assertEqual(longest_by_eye(self.right(graph, cover)), longest)

    def test_graphs_that_are_shrunk(self):
        source = random.Random(8)
        for size in (0, 1, 2, 3):
            for _ in range(8):
                nodes = source.sample(range(12), 12)
                pairs = [tuple(sorted((u, v))) for u in nodes[:size] for v in nodes if u != v and source.random() < 0.6]
                graph, cover = Graph(12, sorted(set(pairs))), sorted(nodes[:size])
                small = self.right(graph, cover)
                self.assertEqual(longest_by_eye(small), longest_by_eye(graph))
        self.assertEqual(path_kernel(Graph(40, []), []), (Graph(1, []), [0]))
        self.assertEqual(path_kernel(Graph(40, []), [0]), (Graph(2, []), [0, 1]))
        self.assertEqual(path_kernel(Graph(0, []), []), (Graph(0, []), []))
        self.assertEqual(path_kernel(two_sides(1, 39), [0])[1], [0, 1, 2])
        self.assertEqual(path_kernel(two_sides(39, 1), [39])[1], [0, 1, 39])
        self.assertEqual(path_kernel(two_sides(2, 38), [0, 1])[1], [0, 1, 2, 3, 4])

    def test_40_nodes(self):
        for graph in large_graphs():
            for cover in (list(range(40)), list(range(1, 40)), list(range(0, 40, 2)), list(range(20)), [0, 1, 2], [0]):
                if all(u in cover or v in cover for u, v in graph.edges):
                    self.right(graph, cover)

    def test_lifted_paths(self):
        for graph in list(all_graphs(4)) + [KITE, two_sides(1, 8), two_sides(2, 6)]:
            for cover in covers_of(graph)[:6]:
                small, nodes = path_kernel(graph, cover)
                for k in range(1, small.nodes + 1):
                    for path in paths_by_eye(small, k)[:40]:
                        told = lift_path(graph, cover, path)
                        self.assertEqual(told, [nodes[v] for v in path])
                        self.assertTrue(path_by_eye(graph, told))

    def test_what_is_no_cover(self):
        for value in wrong_values() + [[], [1], [1, 3], [1, 3, 4, 7], [4, 3, 1], (1, 3, 4), {1, 3, 4}, [1, 3, 4.0]]:
            with self.assertRaises(BadArgument, msg=value):
                path_kernel(KITE, value)
            with self.assertRaises(BadArgument, msg=value):
                lift_path(KITE, value, [0])

    def test_what_is_no_path_of_the_kernel(self):
        graph = two_sides(39, 1)
        self.assertEqual(lift_path(graph, [39], [1, 2, 0]), [1, 39, 0])
        for value in wrong_values() + [[], [0, 1], [0, 2, 0], [0, 39, 1], [3], (0, 2, 1), [0, 2, True], [0, 2.0, 1]]:
            # The one node 0 is a path.
            if repr(value) != "[0]":
                with self.assertRaises(BadArgument, msg=value):
                    lift_path(graph, [39], value)


class LeftAsTheyWere(unittest.TestCase):
    def test_arguments(self):
        graph = Graph(7, KITE.edges)
        colours, family, path, cover = [0, 1, 2, 0, 1, 2, 0], separating_family(7, 3), [0, 1, 2], [1, 3, 4]
        before = [list(one) for one in family]
        is_colouring(7, 3, colours)
        is_separating(7, 3, family)
        is_colourful(graph, colours, 3, path)
        colourful_path(graph, colours, 3)
        colourful_count(graph, colours, 3)
        refuses_path(graph, 3, family)
        path_kernel(graph, cover)
        lift_path(graph, cover, [0, 1])
        path_or_paper(graph, 3)
        longest_path(graph)
        self.assertEqual((colours, path, cover, family), ([0, 1, 2, 0, 1, 2, 0], [0, 1, 2], [1, 3, 4], before))
        self.assertEqual(graph, KITE)
        self.assertEqual([graph.neighbours(v) for v in range(7)], [KITE.neighbours(v) for v in range(7)])

    def test_lists_are_new(self):
        for call in (lambda: [separating_family(5, 2)] + separating_family(5, 2), lambda: [longest_path(KITE)],
                     lambda: [path_or_paper(KITE, 3)[1]], lambda: [path_or_paper(KITE, 7)[1]] + path_or_paper(KITE,
                                                                                                              7)[1],
                     lambda: [path_kernel(KITE, [1, 3, 4])[1]], lambda: [colourful_path(KITE, [0] * 7, 1)]):
            before = call()
            for told in call():
                told.append(None)
            self.assertEqual(call(), before)
        path, cover = [0, 1], list(range(7))
        self.assertIsNot(lift_path(KITE, cover, path), path)
        self.assertIsNot(path_kernel(KITE, cover)[1], cover)
        self.assertEqual(cover, list(range(7)))


if __name__ == "__main__":
    unittest.main()
