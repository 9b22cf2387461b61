import random
import unittest
from itertools import combinations

from cherrystone.cycles import (are_disjoint_cycles, compress, cycle_kernel, cycles_or_nodes, least_meeting,
                                lift_meeting, meets_cycles)
from cherrystone.errors import BadArgument, TooLarge
from cherrystone.graphs import Graph, make_graph
from tests.samples import all_graphs, apart, clique, cycle_by_eye, drawn, drawn_graphs, forest_by_eye, grid, hung
from tests.samples import large_graphs, near_sets, not_numbers, orders, petersen, ring, subsets, two_sides, wrong_values

# Two cycles of three nodes that share the node 2, a cycle of four nodes, and the node 9 alone.
BOW = Graph(10, [(0, 1), (0, 2), (1, 2), (2, 3), (2, 4), (3, 4), (4, 5), (5, 6), (5, 8), (6, 7), (7, 8)])


def least_list(graph):
    return next(nodes for nodes in subsets(range(graph.nodes)) if forest_by_eye(graph, nodes))


def least_size(graph):
    return len(least_list(graph))


def packed(graph):
    """The greatest number of cycles of a small graph without a common node."""
    cycles = {frozenset(walk) for walk in orders(range(graph.nodes)) if cycle_by_eye(graph, walk)}
    many = 0
    while any(len(frozenset().union(*some)) == sum(map(len, some)) for some in combinations(cycles, many + 1)):
        many += 1
    return many


def reduced(graph):
    """Whether none of the three rules applies to the graph."""
    near = near_sets(graph)
    twos = [v for v in near if len(near[v]) == 2]
    if any(len(near[v]) < 2 for v in near) or any(u not in near[w] for v in twos for u, w in [sorted(near[v])]):
        return False
    return not any(u in near[v] and near[u] & near[v] for u, v in combinations(twos, 2))


def widest(graph, k):
    """The greatest number of nodes of a meeting set that point 20 lets be in the place of k cycles."""
    b = 0
    while 2 ** b < graph.nodes:
        b += 1
    return (k - 1) * (2 * b + 2)


class MeetingSets(unittest.TestCase):
    def test_by_example(self):
        for nodes, right in (([2, 5], True), ([2, 7], True), ([0, 3, 8], True), ([2], False), ([5], False),
                             ([], False), ([0, 1, 5], False), ([2, 4, 9], False), (list(range(10)), True)):
            self.assertIs(meets_cycles(BOW, nodes), right)
        for graph in (Graph(0, []), Graph(1, []), Graph(40, []), two_sides(1, 39)):
            self.assertIs(meets_cycles(graph, []), True)

    def test_each_node_list(self):
        for graph in list(all_graphs(4)) + list(drawn_graphs(7, 2)):
            for nodes in subsets(range(graph.nodes)):
                self.assertIs(meets_cycles(graph, nodes), forest_by_eye(graph, nodes))
                if len(nodes) > 1:
                    self.assertIs(meets_cycles(graph, nodes[::-1]), False)

    def test_large_graphs(self):
        for graph in large_graphs():
            for nodes in ([], [0], list(range(20)), list(range(37)), list(range(38)), list(range(40))):
                self.assertIs(meets_cycles(graph, nodes), forest_by_eye(graph, nodes))

    def test_values_of_all_kinds(self):
        for value in wrong_values() + [[2, 5, 10], [5, 2], [2, 2, 5], (2, 5), {2, 5}, [2, 5.0], [2, "5"], [2, None]]:
            self.assertIs(meets_cycles(BOW, value), False, value)
        for value in [(), {}, None, 0, "", [0], [None], False]:
            self.assertIs(meets_cycles(Graph(0, []), value), False, value)


class Packings(unittest.TestCase):
    def test_by_example(self):
        for cycles, right in (([], True), ([[0, 1, 2]], True), ([[2, 0, 1], [5, 8, 7, 6]], True),
                              ([[7, 8, 5, 6], [3, 2, 4]], True), ([[0, 1, 2], [2, 3, 4]], False),
                              ([[0, 1, 2], [0, 1, 2]], False), ([[0, 1, 2], [2, 1, 0]], False), ([[0, 1]], False),
                              ([[0, 1, 2, 3]], False), ([[5, 6, 8, 7]], False), ([[9]], False), ([[]], False),
                              ([[0, 1, 2, 0]], False), ([[0, 1, 2], []], False)):
            self.assertIs(are_disjoint_cycles(BOW, cycles), right, cycles)

    def test_each_list_of_nodes(self):
        for graph in list(all_graphs(4)) + list(drawn_graphs(5, 1)):
            for walk in orders(range(graph.nodes)):
                self.assertIs(are_disjoint_cycles(graph, [walk]), cycle_by_eye(graph, walk))

    def test_values_of_all_kinds(self):
        for value in wrong_values():
            self.assertIs(are_disjoint_cycles(BOW, value), False, value)
            self.assertIs(are_disjoint_cycles(BOW, [value]), False, value)
            self.assertIs(are_disjoint_cycles(BOW, [[0, 1, 2], value]), False, value)
        for value in ([(0, 1, 2)], ([0, 1, 2],), [{0, 1, 2}], [[0, 1, 2.0]], [[False, 1, 2]], [[0, True, 2]],
                      [[0, 1, 10]], [["0", "1", "2"]], [0, 1, 2], {0: [0, 1, 2]}, [[[0, 1, 2]]],
                      [[-1, 0, 1]], iter([[0, 1, 2]])):
            self.assertIs(are_disjoint_cycles(BOW, value), False, value)


class Kernels(unittest.TestCase):
    def right(self, graph):
        """Checks that none of the rules applies to the kernel, and returns it."""
        kernel = cycle_kernel(graph)
        self.assertIs(type(kernel), tuple)
        small, nodes, forced = kernel
        self.assertTrue(reduced(small), small.edges)
        for told in (nodes, forced):
            self.assertEqual(told, sorted(set(told)))
            self.assertTrue(set(told) <= set(range(graph.nodes)))
        self.assertFalse(set(nodes) & set(forced))
        self.assertEqual(len(nodes), small.nodes)
        return kernel

    def test_by_example(self):
        for graph in (Graph(0, []), Graph(1, []), Graph(40, []), grid(1, 40), two_sides(1, 39)):
            self.assertEqual(cycle_kernel(graph), (Graph(0, []), [], []))
        self.assertEqual(cycle_kernel(clique(4)), (clique(4), [0, 1, 2, 3], []))
        self.assertEqual(cycle_kernel(clique(40)), (clique(40), list(range(40)), []))
        self.assertEqual(cycle_kernel(petersen()), (petersen(), list(range(10)), []))
        for graph in (clique(3), ring(4), ring(40), apart(Graph(3, []), ring(5), Graph(2, [(0, 1)]))):
            small, nodes, forced = cycle_kernel(graph)
            self.assertEqual((small, nodes, len(forced)), (Graph(0, []), [], 1))
        # A node that is between two nodes of a clique gives way to an edge, but not if these are adjacent.
        between = sorted(set(clique(5).edges) - {(0, 1)} | {(0, 5), (1, 5)})
        self.assertEqual(cycle_kernel(Graph(6, between)), (clique(5), [0, 1, 2, 3, 4], []))
        thick = Graph(6, sorted(clique(5).edges + [(0, 5), (1, 5)]))
        self.assertEqual(cycle_kernel(thick), (thick, [0, 1, 2, 3, 4, 5], []))
        # At the tip of a cycle of three nodes the node that both others have beside them is forced.
        tip = Graph(6, sorted(clique(4).edges + [(0, 4), (0, 5), (4, 5)]))
        self.assertEqual(cycle_kernel(tip)[0], Graph(0, []))
        self.assertIn(0, cycle_kernel(tip)[2])

    def test_least_meeting_sets_of_both(self):
        for graph in list(all_graphs(5)) + list(drawn_graphs(8, 5)) + [BOW, petersen(), grid(3, 3)]:
            small, _, forced = self.right(graph)
            self.assertEqual(least_size(small) + len(forced), least_size(graph))

    def test_large_graphs(self):
        for graph in list(large_graphs()) + [drawn(40, percent, seed) for percent in (4, 5, 6) for seed in range(10)]:
            small, nodes, forced = self.right(graph)
            self.assertTrue(forest_by_eye(graph, lift_meeting(graph, (small, nodes, forced), list(range(small.nodes)))))

    def test_lifted_meeting_sets(self):
        for graph in list(all_graphs(4)) + list(drawn_graphs(9, 2)) + [BOW, grid(3, 3)]:
            kernel = cycle_kernel(graph)
            small, nodes, forced = kernel
            least = least_size(graph)
            for chosen in subsets(range(small.nodes)):
                if forest_by_eye(small, chosen):
                    told = lift_meeting(graph, kernel, chosen)
                    self.assertEqual(told, sorted(forced + [nodes[v] for v in chosen]))
                    self.assertTrue(forest_by_eye(graph, told))
                    self.assertEqual(len(told) == least, len(chosen) == least_size(small))
                else:
                    with self.assertRaises(BadArgument):
                        lift_meeting(graph, kernel, chosen)

    def test_lift_takes_meeting_sets_alone(self):
        graph = apart(BOW, clique(5))
        kernel = cycle_kernel(graph)
        self.assertEqual(lift_meeting(graph, kernel, [0, 1, 2])[-3:], [10, 11, 12])
        for value in wrong_values() + [[], [0, 1], [2, 1, 0], (0, 1, 2), [0, 1, 1, 2], [0, 1, 2, 5], [0, 1, 2.0]]:
            with self.assertRaises(BadArgument, msg=value):
                lift_meeting(graph, kernel, value)


class LeastMeetingSets(unittest.TestCase):
    def right(self, graph):
        told = least_meeting(graph)
        self.assertEqual(told, sorted(set(told)))
        self.assertTrue(forest_by_eye(graph, told))
        return len(told)

    def test_against_all_node_lists(self):
        for graph in list(all_graphs(5)) + list(drawn_graphs(8, 5)) + [BOW, petersen(), grid(3, 4)]:
            self.assertEqual(self.right(graph), least_size(graph))

    def test_at_least_as_many_nodes_as_a_packing_has_cycles(self):
        for graph in list(all_graphs(4)) + list(drawn_graphs(6, 1)):
            self.assertGreaterEqual(self.right(graph), packed(graph))

    def test_14_nodes(self):
        for graph, size in ((Graph(14, []), 0), (grid(1, 14), 0), (ring(14), 1), (clique(14), 12), (two_sides(7, 7), 6),
                            (two_sides(2, 12), 1), (apart(*[clique(3)] * 4), 4), (ring(14, 2), 6)):
            self.assertEqual(self.right(graph), size)
        for graph in drawn_graphs(14, 1):
            self.assertEqual(self.right(graph), least_size(graph))

    def test_more_than_14_nodes(self):
        for graph in (Graph(15, []), clique(15), ring(15)) + tuple(large_graphs()):
            with self.assertRaises(TooLarge):
                least_meeting(graph)


class CyclesOrNodes(unittest.TestCase):
    def right(self, graph, k):
        """Checks that there are k cycles, or so few nodes; returns what is told."""
        answer = cycles_or_nodes(graph, k)
        self.assertIs(type(answer), tuple)
        cycles, nodes = answer
        if nodes is None:
            self.assertEqual(len(cycles), k)
            self.assertTrue(all(cycle_by_eye(graph, cycle) for cycle in cycles))
            met = [v for cycle in cycles for v in cycle]
            self.assertEqual(len(set(met)), len(met))
            self.assertIs(are_disjoint_cycles(graph, cycles), True)
        else:
            self.assertIsNone(cycles)
            self.assertEqual(nodes, sorted(set(nodes)))
            self.assertTrue(forest_by_eye(graph, nodes))
            self.assertLessEqual(len(nodes), widest(graph, k))
        return answer

    def test_small_graphs(self):
        for graph in list(all_graphs(5)) + list(drawn_graphs(9, 5)) + [BOW, petersen(), grid(3, 4)]:
            for k in (1, 2, 3, 4, 40):
                self.right(graph, k)

    def test_large_graphs(self):
        graphs = list(large_graphs()) + [drawn(40, percent, seed) for percent in (4, 5, 6, 8) for seed in range(20)]
        for graph in graphs + [apart(petersen(), petersen(), petersen(), petersen()), apart(*[clique(3)] * 13)]:
            for k in (1, 2, 3, 4, 7, 13, 14, 39, 40):
                self.right(graph, k)

    def test_one_cycle_or_a_forest(self):
        for graph in list(all_graphs(4)) + list(drawn_graphs(12, 5)) + list(large_graphs()):
            cycles, nodes = self.right(graph, 1)
            self.assertEqual(cycles is None, forest_by_eye(graph))
            self.assertEqual(nodes, None if cycles else [])

    def test_where_just_one_of_both_is_there(self):
        self.assertEqual(len(self.right(apart(*[clique(3)] * 13), 13)[0]), 13)
        self.assertIsNone(self.right(apart(*[clique(3)] * 13), 14)[0])
        self.assertIsNone(self.right(Graph(0, []), 40)[0])
        self.assertIsNone(self.right(clique(5), 2)[0])
        self.assertEqual(self.right(Graph(0, []), 1), (None, []))
        self.assertEqual(self.right(Graph(1, []), 1), (None, []))
        self.assertEqual(self.right(Graph(40, []), 40), (None, []))

    def test_wrong_numbers(self):
        for k in not_numbers(1, 40) + [0, 41]:
            for graph in (BOW, Graph(0, [])):
                with self.assertRaises(BadArgument, msg=k):
                    cycles_or_nodes(graph, k)


class Compress(unittest.TestCase):
    def fewer(self, graph, nodes):
        """Checks that what is told, if anything, is a meeting set with fewer nodes; tells its number of nodes."""
        told = compress(graph, nodes)
        if told is None:
            return len(nodes)
        self.assertEqual(told, sorted(set(told)))
        self.assertLess(len(told), len(nodes))
        self.assertTrue(forest_by_eye(graph, told))
        return self.fewer(graph, told)

    def test_each_meeting_set_of_small_graphs(self):
        for graph in list(all_graphs(5)) + list(drawn_graphs(7, 2)):
            least = least_size(graph)
            for nodes in subsets(range(graph.nodes)):
                if forest_by_eye(graph, nodes):
                    told = compress(graph, nodes)
                    self.assertEqual(told is None, len(nodes) == least)
                    self.assertEqual(self.fewer(graph, nodes), least)

    def test_against_all_node_lists(self):
        source = random.Random(7)
        for size in range(8):
            for thin in (0.2, 0.3, 0.5):
                graph, nodes = hung(source, 13, size, thin)
                self.assertEqual(self.fewer(graph, nodes), least_size(graph))

    def test_7_nodes_of_40(self):
        source = random.Random(8)
        for thin in (0.05, 0.1, 0.15, 0.2, 0.3, 0.6):
            for _ in range(5):
                graph, nodes = hung(source, 40, 7, thin)
                self.fewer(graph, nodes)

    def test_graphs_side_by_side(self):
        source = random.Random(9)
        blocks = [petersen(), clique(5), two_sides(3, 4), ring(7), ring(9, 2), grid(3, 3), clique(3), Graph(2, [])]
        least = [least_list(block) for block in blocks]
        for _ in range(60):
            chosen = source.sample(range(len(blocks)), 4)
            met, first = [], 0
            for k in chosen:
                met += [first + v for v in least[k]]
                first += blocks[k].nodes
            if len(met) > 7:
                continue
            # The numbers of the nodes are mixed, and the least meeting set gets other nodes beside it.
            graph = apart(*[blocks[k] for k in chosen])
            names = source.sample(range(graph.nodes), graph.nodes)
            mixed = make_graph(graph.nodes, [(names[u], names[v]) for u, v in graph.edges])
            more = source.sample([v for v in range(graph.nodes) if v not in met], 7 - len(met))
            self.assertEqual(self.fewer(mixed, sorted(names[v] for v in met + more)), len(met))
            self.assertEqual(self.fewer(mixed, sorted(names[v] for v in met)), len(met))

    def test_known_numbers(self):
        threes, fives = apart(*[clique(3)] * 7), apart(*[ring(5)] * 7)
        for graph, nodes, least in ((two_sides(7, 33), list(range(7)), 6), (threes, list(range(0, 21, 3)), 7),
                                    (fives, list(range(0, 35, 5)), 7), (ring(40), [0, 1, 20], 1),
                                    (clique(9), list(range(7)), 7), (Graph(40, []), [0, 1, 2, 3, 4, 5, 39], 0),
                                    (petersen(), [0, 1, 2, 3, 4, 5], 3), (Graph(0, []), [], 0),
                                    (grid(3, 3), [1, 3, 4, 5], 2), (drawn(40, 3, 1), [], 0)):
            self.assertEqual(self.fewer(graph, nodes), least)

    def test_what_is_no_meeting_set_of_at_most_7_nodes(self):
        graph = apart(*[clique(3)] * 8)
        for nodes in (list(range(0, 24, 3)), [], list(range(0, 21, 3)), list(range(24))):
            with self.assertRaises(BadArgument, msg=nodes):
                compress(graph, nodes)
        with self.assertRaises(BadArgument):
            compress(Graph(8, []), list(range(8)))
        self.assertIsNotNone(compress(Graph(8, []), list(range(7))))
        for value in wrong_values() + [[2], [5], [2, 10], [5, 2], [2, 2, 5], (2, 5), {2, 5}, [2, 5.0], [2, "5"]]:
            with self.assertRaises(BadArgument, msg=value):
                compress(BOW, value)


class LeftAsTheyWere(unittest.TestCase):
    def test_arguments(self):
        graph = Graph(10, BOW.edges)
        nodes, cycles = [2, 5, 9], [[0, 1, 2], [5, 6, 7, 8]]
        wide = apart(BOW, clique(5))
        kernel = cycle_kernel(wide)
        before = (Graph(kernel[0].nodes, kernel[0].edges), list(kernel[1]), list(kernel[2]))
        chosen = [0, 1, 2]
        lift_meeting(wide, kernel, chosen)
        self.assertEqual((kernel, chosen), (before, [0, 1, 2]))
        meets_cycles(graph, nodes)
        are_disjoint_cycles(graph, cycles)
        compress(graph, nodes)
        for call in (cycle_kernel, least_meeting, lambda graph: cycles_or_nodes(graph, 2)):
            call(graph)
        self.assertEqual((nodes, cycles), ([2, 5, 9], [[0, 1, 2], [5, 6, 7, 8]]))
        self.assertEqual(graph, BOW)
        self.assertEqual([graph.neighbours(v) for v in range(10)], [BOW.neighbours(v) for v in range(10)])

    def test_lists_are_new(self):
        for call in (lambda: cycle_kernel(BOW)[1:], lambda: [least_meeting(BOW)], lambda: cycles_or_nodes(BOW, 1)[0],
                     lambda: [cycles_or_nodes(BOW, 40)[1]], lambda: [compress(BOW, [2, 5, 9])]):
            before = call()
            for told in call():
                told.append(None)
            self.assertEqual(call(), before)
        lone = cycle_kernel(BOW)
        self.assertIsNot(lift_meeting(BOW, lone, []), lone[2])


if __name__ == "__main__":
    unittest.main()
