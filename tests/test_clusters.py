import unittest
from itertools import combinations, permutations

from cherrystone.clusters import (are_conflicts, classes, cluster_kernel, cost, is_clustering, least_clusters,
                                  lift_clusters, pack_conflicts, refuses_clusters)
from cherrystone.errors import BadArgument, TooLarge
from cherrystone.graphs import Graph
from tests.samples import all_graphs, apart, clique, components_by_eye, drawn, drawn_graphs, grid, large_graphs
from tests.samples import near_sets, not_numbers, petersen, ring, subsets, two_sides, wrong_values

# A path of four nodes whose ends are doubled, a clique of three nodes, and the node 9 alone.
CHAIN = Graph(10, [(0, 1), (0, 2), (1, 2), (2, 3), (3, 4), (3, 5), (4, 5), (6, 7), (6, 8), (7, 8)])


def clusterings(nodes):
    """All clusterings of the nodes of an ascending list."""
    if not nodes:
        yield []
        return
    for others in subsets(nodes[1:]):
        for rest in clusterings([v for v in nodes[1:] if v not in others]):
            yield [[nodes[0]] + others] + rest


def cost_by_eye(graph, clusters):
    edges = set(graph.edges)
    together = {pair for one in clusters for pair in combinations(one, 2)}
    return len(edges ^ together)


def least_by_eye(graph):
    return min(cost_by_eye(graph, clusters) for clusters in clusterings(list(range(graph.nodes))))


def conflicts_by_eye(graph):
    near = near_sets(graph)
    triples = permutations(range(graph.nodes), 3)
    return [(u, v, w) for u, v, w in triples if u < w and u in near[v] and w in near[v] and w not in near[u]]


def pairs_by_eye(conflict):
    return {frozenset(pair) for pair in combinations(conflict, 2)}


def classes_by_eye(graph):
    near = near_sets(graph)
    alike = {v: {u for u in near[v] if near[u] - {v} == near[v] - {u}} | {v} for v in near}
    return sorted(sorted(one) for one in {frozenset(one) for one in alike.values()})


def torn_by_eye(graph):
    """The classes in components that are not cliques."""
    edges = set(graph.edges)
    torn = set()
    for part in components_by_eye(graph):
        if any(pair not in edges for pair in combinations(sorted(part), 2)):
            torn |= part
    return [one for one in classes_by_eye(graph) if one[0] in torn]


def blown(graph, sizes):
    """The graph in which each node is a clique of so many nodes, adjacent to those that it was adjacent to."""
    firsts = [sum(sizes[:v]) for v in range(graph.nodes)]
    names = [range(first, first + size) for first, size in zip(firsts, sizes)]
    edges = [pair for one in names for pair in combinations(one, 2)]
    edges += [(a, b) for u, v in graph.edges for a in names[u] for b in names[v]]
    return Graph(sum(sizes), sorted(edges))


class Clusterings(unittest.TestCase):
    def test_by_example(self):
        graph = Graph(4, [(0, 1), (1, 2), (2, 3)])
        for clusters, right in (([[0, 1], [2, 3]], True), ([[0, 2], [1, 3]], True), ([[0], [1], [2], [3]], True),
                                ([[0, 1, 2, 3]], True), ([[2, 3], [0, 1]], False), ([[0, 1], [3, 2]], False),
                                ([[0, 1], [2]], False), ([[0, 1], [1, 2, 3]], False), ([[0, 1], [], [2, 3]], False),
                                ([[0, 1], [2, 3], []], False), ([[0, 1], [2, 3, 4]], False), ([], False),
                                ([[0, 1], [2, 3], [2, 3]], False), ([[0, 1, 1], [2, 3]], False), ([[]], False)):
            self.assertIs(is_clustering(graph, clusters), right, clusters)
        self.assertIs(is_clustering(Graph(0, []), []), True)
        self.assertIs(is_clustering(Graph(0, []), [[]]), False)
        self.assertIs(is_clustering(Graph(40, []), [[v] for v in range(40)]), True)
        self.assertIs(is_clustering(Graph(40, []), [list(range(40))]), True)

    def test_each_list_of_lists(self):
        lists = list(subsets(range(3)))
        right = [clusters for clusters in clusterings([0, 1, 2])]
        self.assertEqual(len(right), 5)
        for size in range(4):
            for chosen in permutations(lists, size):
                clusters = [list(one) for one in chosen]
                self.assertIs(is_clustering(Graph(3, [(0, 1)]), clusters), clusters in right, clusters)

    def test_values_of_all_kinds(self):
        graph = Graph(3, [(0, 1), (1, 2)])
        for value in wrong_values():
            self.assertIs(is_clustering(graph, value), False, value)
            self.assertIs(is_clustering(graph, [value]), False, value)
            self.assertIs(is_clustering(graph, [[0], value, [1, 2]]), False, value)
        for value in (([0], [1, 2]), [(0,), (1, 2)], [[0], (1, 2)], {0: [0], 1: [1, 2]}, [[0], [True, 2]],
                      [[0], [1.0, 2]],
                      [[False], [1, 2]], [["0"], ["1", "2"]], [{0}, {1, 2}], [[[0]], [[1, 2]]], iter([[0, 1, 2]])):
            self.assertIs(is_clustering(graph, value), False, value)


class Costs(unittest.TestCase):
    def test_against_all_pairs(self):
        for graph in list(all_graphs(4)) + list(drawn_graphs(6, 1)):
            for clusters in clusterings(list(range(graph.nodes))):
                self.assertEqual(cost(graph, clusters), cost_by_eye(graph, clusters))

    def test_40_nodes(self):
        for graph in large_graphs():
            self.assertEqual(cost(graph, [list(range(40))]), 780 - graph.many)
            self.assertEqual(cost(graph, [[v] for v in range(40)]), graph.many)
        self.assertEqual(cost(Graph(0, []), []), 0)

    def test_what_is_no_clustering(self):
        for value in wrong_values() + [[[0, 1]], [[0, 1, 2, 3]], [[1, 2], [0]], [[0], [2, 1]], ([0], [1, 2]), [[]]]:
            with self.assertRaises(BadArgument, msg=value):
                cost(Graph(3, [(0, 1)]), value)
        with self.assertRaises(BadArgument):
            cost(Graph(0, []), [[]])


class Conflicts(unittest.TestCase):
    def test_single_ones(self):
        for graph in list(all_graphs(4)) + list(drawn_graphs(6, 1)):
            right = conflicts_by_eye(graph)
            for triple in permutations(range(graph.nodes), 3):
                self.assertIs(are_conflicts(graph, [triple]), triple in right, triple)

    def test_packings(self):
        for graph in list(drawn_graphs(5, 2)) + [ring(5), grid(2, 3)]:
            right = conflicts_by_eye(graph)
            for size in (0, 2, 3):
                for some in combinations(sorted(right), size):
                    pairs = [pair for one in some for pair in pairs_by_eye(one)]
                    self.assertIs(are_conflicts(graph, list(some)), len(set(pairs)) == len(pairs))
                    if size > 1:
                        self.assertIs(are_conflicts(graph, list(some[::-1])), False)
                        self.assertIs(are_conflicts(graph, [some[0]] + list(some)), False)

    def test_pairs_that_are_not_adjacent_count(self):
        # The conflicts of the two sides share no edge, but the pair of 0 and 1.
        graph = two_sides(2, 2)
        self.assertIs(are_conflicts(graph, [(0, 2, 1)]), True)
        self.assertIs(are_conflicts(graph, [(0, 3, 1)]), True)
        self.assertIs(are_conflicts(graph, [(0, 2, 1), (0, 3, 1)]), False)
        # A pair that one conflict joins and the other one misses.
        self.assertIs(are_conflicts(Graph(5, [(0, 1), (1, 2), (3, 4)]), [(0, 1, 2)]), True)
        self.assertIs(are_conflicts(ring(6), [(0, 1, 2), (0, 5, 4), (2, 3, 4)]), True)

    def test_values_of_all_kinds(self):
        graph = Graph(4, [(1, 2), (2, 3)])
        self.assertIs(are_conflicts(graph, [(1, 2, 3)]), True)
        for value in wrong_values():
            self.assertIs(are_conflicts(graph, value), False, value)
            self.assertIs(are_conflicts(graph, [value]), False, value)
            self.assertIs(are_conflicts(graph, [(1, 2, 3), value]), False, value)
        for value in ([[1, 2, 3]], ((1, 2, 3),), [(1, 2, 3.0)], [(True, 2, 3)], [(1, 2, "3")], [(1, 2)], [(1, 2, 3, 3)],
                      [(0, 1, 2, 3)], [(3, 2, 1)], [(1, 2, 4)], [(-1, 2, 3)], [(1, 2, None)], {(1, 2, 3): True},
                      iter([(1, 2, 3)]), [[(1, 2, 3)]], [(1, 2, 3), (1, 2, 3)], "123", [("1", "2", "3")]):
            self.assertIs(are_conflicts(graph, value), False, value)
        self.assertIs(are_conflicts(graph, []), True)
        self.assertIs(are_conflicts(Graph(0, []), []), True)
        self.assertIs(are_conflicts(Graph(0, []), [()]), False)


class PackedConflicts(unittest.TestCase):
    def right(self, graph):
        told = pack_conflicts(graph)
        self.assertIs(are_conflicts(graph, told), True)
        self.assertEqual(told, sorted(told))
        pairs = [pair for one in told for pair in pairs_by_eye(one)]
        self.assertEqual(len(set(pairs)), len(pairs))
        for one in conflicts_by_eye(graph):
            self.assertTrue(pairs_by_eye(one) & set(pairs))
        return told

    def test_nothing_can_be_added(self):
        for graph in list(all_graphs(5)) + list(drawn_graphs(9, 2)) + [CHAIN, petersen()]:
            self.right(graph)

    def test_40_nodes(self):
        for graph in large_graphs():
            self.right(graph)

    def test_at_most_as_many_as_a_clustering_costs(self):
        for graph in list(all_graphs(4)) + list(drawn_graphs(7, 1)):
            self.assertLessEqual(len(self.right(graph)), least_by_eye(graph))

    def test_no_conflict(self):
        for graph in (Graph(0, []), Graph(40, []), clique(40), apart(clique(5), clique(3), clique(1))):
            self.assertEqual(pack_conflicts(graph), [])


class Classes(unittest.TestCase):
    def test_by_example(self):
        self.assertEqual(classes(CHAIN), [[0, 1], [2], [3], [4, 5], [6, 7, 8], [9]])
        self.assertEqual(classes(Graph(0, [])), [])
        self.assertEqual(classes(Graph(3, [])), [[0], [1], [2]])
        self.assertEqual(classes(clique(40)), [list(range(40))])
        self.assertEqual(classes(two_sides(2, 2)), [[0], [1], [2], [3]])
        self.assertEqual(classes(Graph(4, [(0, 3), (1, 2)])), [[0, 3], [1, 2]])

    def test_against_the_neighbours(self):
        for graph in list(all_graphs(5)) + list(drawn_graphs(9, 3)) + list(large_graphs()):
            self.assertEqual(classes(graph), classes_by_eye(graph))
        for seed in range(5):
            graph = blown(drawn(8, 40, seed), [5, 4, 3, 2, 1, 6, 1, 2])
            self.assertEqual(classes(graph), classes_by_eye(graph))


class Kernels(unittest.TestCase):
    def right(self, graph, k):
        """Checks that the answer is exactly that of point 23, and returns it."""
        answer = cluster_kernel(graph, k)
        self.assertIs(type(answer), tuple)
        kernel, paper = answer
        torn = torn_by_eye(graph)
        if len(torn) > 4 * k:
            self.assertIsNone(kernel)
            self.assertEqual(paper, torn)
            self.assertIs(refuses_clusters(graph, k, paper), True)
        else:
            self.assertIsNone(paper)
            small, nodes = kernel
            self.assertEqual(nodes, sorted(v for one in torn for v in sorted(one)[:k + 1]))
            self.assertEqual(small, graph.induced(nodes))
            self.assertIs(refuses_clusters(graph, k, torn), False)
        return answer

    def test_by_example(self):
        small = Graph(4, [(0, 1), (1, 2), (2, 3)])
        self.assertEqual(cluster_kernel(CHAIN, 0), (None, [[0, 1], [2], [3], [4, 5]]))
        self.assertEqual(cluster_kernel(CHAIN, 1), ((CHAIN.induced(list(range(6))), [0, 1, 2, 3, 4, 5]), None))
        self.assertEqual(cluster_kernel(blown(small, [4, 1, 1, 3]), 1)[0][1], [0, 1, 4, 5, 6, 7])
        self.assertEqual(cluster_kernel(blown(small, [4, 1, 1, 3]), 2)[0][1], [0, 1, 2, 4, 5, 6, 7, 8])
        for graph in (Graph(0, []), Graph(40, []), clique(40), apart(clique(5), clique(3), clique(1))):
            for k in (0, 1, 20):
                self.assertEqual(cluster_kernel(graph, k), ((Graph(0, []), []), None))

    def test_small_graphs(self):
        for graph in list(all_graphs(5)) + list(drawn_graphs(9, 2)) + [CHAIN, petersen(), grid(3, 3)]:
            for k in range(7):
                self.right(graph, k)

    def test_large_graphs(self):
        for graph in large_graphs():
            for k in range(21):
                self.right(graph, k)
        for seed in range(5):
            for k in range(21):
                self.right(blown(drawn(6, 50, seed), [12, 1, 7, 2, 9, 9]), k)

    def test_exactly_the_same_graphs_are_cheap(self):
        for graph in list(all_graphs(5)) + [blown(drawn(4, 50, seed), [3, 1, 2, 2]) for seed in range(5)]:
            least = least_by_eye(graph)
            for k in range(6):
                kernel, _ = self.right(graph, k)
                if kernel is None:
                    self.assertGreater(least, k)
                else:
                    self.assertEqual(least_by_eye(kernel[0]) <= k, least <= k)

    def test_wrong_parameters(self):
        for k in not_numbers(0, 20) + [-1, 21]:
            for graph in (CHAIN, Graph(0, [])):
                for call in (lambda: cluster_kernel(graph, k), lambda: refuses_clusters(graph, k, []),
                             lambda: refuses_clusters(graph, k, None), lambda: lift_clusters(graph, k, []),
                             lambda: lift_clusters(graph, k, None)):
                    with self.assertRaises(BadArgument, msg=k):
                        call()


class Refusals(unittest.TestCase):
    def test_never_where_there_is_a_cheap_clustering(self):
        for graph in list(all_graphs(5)) + [CHAIN]:
            paper = torn_by_eye(graph)
            least = least_by_eye(graph) if graph.nodes < 8 else 1
            for k in range(5):
                told = refuses_clusters(graph, k, paper)
                self.assertIs(told, len(paper) > 4 * k)
                if told:
                    self.assertGreater(least, k)

    def test_spoilt_papers(self):
        paper = [[0, 1], [2], [3], [4, 5]]
        self.assertIs(refuses_clusters(CHAIN, 0, paper), True)
        self.assertIs(refuses_clusters(CHAIN, 1, paper), False)
        for value in wrong_values() + [
                [[0, 1], [2], [3]], [[0, 1], [2], [4, 5], [3]], [[0, 1], [2], [3], [4, 5], [6, 7, 8]],
                [[0, 1], [2], [3], [4, 5], [9]], [[1, 0], [2], [3], [4, 5]], [[0], [1], [2], [3], [4], [5]],
                [(0, 1), (2,), (3,), (4, 5)], ([0, 1], [2], [3], [4, 5]), [[0, True], [2], [3], [4, 5]],
                [[False, 1], [2], [3], [4, 5]], [[0, 1.0], [2], [3], [4, 5]], [[0, 1], [2], [3], [4, 5], []],
                [[0, 1], ["2"], [3], [4, 5]], [[0, 1], None, [3], [4, 5]], [[0, 1, 2], [3, 4, 5]], classes(CHAIN)]:
            self.assertIs(refuses_clusters(CHAIN, 0, value), False, value)
            self.assertIs(refuses_clusters(CHAIN, 0, paper + [value]), False, value)
        for value in wrong_values() + [[], [[]]]:
            self.assertIs(refuses_clusters(Graph(0, []), 0, value), False, value)
            self.assertIs(refuses_clusters(clique(3), 0, value), False, value)


class Lifts(unittest.TestCase):
    def lifted(self, graph, k):
        """Lifts all clusterings of a kernel, if there is one; tells how many could be lifted."""
        kernel, _ = cluster_kernel(graph, k)
        if kernel is None:
            with self.assertRaises(BadArgument):
                lift_clusters(graph, k, [list(range(graph.nodes))])
            return 0
        many = 0
        for clusters in clusterings(list(range(kernel[0].nodes))):
            spent = cost_by_eye(kernel[0], clusters)
            if spent > k:
                with self.assertRaises(BadArgument):
                    lift_clusters(graph, k, clusters)
            else:
                told = lift_clusters(graph, k, clusters)
                self.assertIs(is_clustering(graph, told), True)
                self.assertLessEqual(cost_by_eye(graph, told), spent)
                many += 1
        return many

    def test_all_clusterings(self):
        for graph in list(all_graphs(5)):
            for k in range(4):
                self.lifted(graph, k)
        for graph in list(drawn_graphs(7, 1)):
            self.assertGreater(self.lifted(graph, 20) + self.lifted(graph, 10), 1)

    def test_classes_that_are_shortened(self):
        line = Graph(3, [(0, 1), (1, 2)])
        for sizes in ([5, 1, 4], [1, 4, 6], [3, 1, 1], [1, 9, 1], [9, 1, 9]):
            graph = apart(blown(line, sizes), clique(3))
            for k in (1, 2, 3):
                self.lifted(graph, k)
        # At least one pair is wrong: the node in the middle goes with either side.
        graph = apart(clique(2), blown(line, [1, 1, 30]), clique(4))
        for clusters in ([[0, 1], [2, 3]], [[0], [1, 2, 3]], [[0, 1, 2], [3]]):
            small = cluster_kernel(graph, 1)[0][0]
            self.assertEqual(small.nodes, 4)
            if cost_by_eye(small, clusters) == 1:
                self.assertEqual(lift_clusters(graph, 1, clusters),
                                 [[0, 1], [2], list(range(3, 34)), [34, 35, 36, 37]])
            else:
                with self.assertRaises(BadArgument):
                    lift_clusters(graph, 1, clusters)

    def test_graphs_without_conflicts(self):
        for graph in (Graph(0, []), Graph(5, []), clique(40), apart(clique(3), clique(2), clique(1))):
            for k in (0, 20):
                told = lift_clusters(graph, k, [])
                self.assertEqual(told, [sorted(part) for part in components_by_eye(graph)])

    def test_what_it_does_not_take(self):
        small = cluster_kernel(CHAIN, 1)[0][0]
        right = [[0, 1, 2], [3, 4, 5]]
        self.assertEqual(lift_clusters(CHAIN, 1, right), right + [[6, 7, 8], [9]])
        self.assertEqual(small.nodes, 6)
        for value in wrong_values() + [[], [[0, 1, 2, 3, 4, 5]], right + [[6, 7, 8], [9]], [[3, 4, 5], [0, 1, 2]],
                                       [[0, 1, 2]],
                                       [(0, 1, 2), (3, 4, 5)], ([0, 1, 2], [3, 4, 5]), [[0, 1, 2], [3, 4, 5.0]]]:
            with self.assertRaises(BadArgument, msg=value):
                lift_clusters(CHAIN, 1, value)
            # Without a kernel nothing can be lifted.
            with self.assertRaises(BadArgument, msg=value):
                lift_clusters(CHAIN, 0, value)
        with self.assertRaises(BadArgument):
            lift_clusters(CHAIN, 0, right)


class LeastClusters(unittest.TestCase):
    def right(self, graph):
        spent, clusters = least_clusters(graph)
        self.assertIs(is_clustering(graph, clusters), True)
        self.assertEqual(cost_by_eye(graph, clusters), spent)
        return spent

    def test_against_all_clusterings(self):
        for graph in list(all_graphs(5)) + list(drawn_graphs(7, 3)) + [two_sides(3, 4), ring(7), grid(2, 3)]:
            self.assertEqual(self.right(graph), least_by_eye(graph))

    def test_9_nodes(self):
        for graph, spent in ((Graph(9, []), 0), (clique(9), 0), (apart(clique(4), clique(5)), 0), (ring(9), 5),
                             (grid(1, 9), 4), (grid(3, 3), 8), (two_sides(1, 8), 7), (Graph(0, []), 0)):
            self.assertEqual(self.right(graph), spent)
        for graph in (drawn(9, 40, 1), drawn(9, 60, 2), two_sides(4, 5)):
            self.assertEqual(self.right(graph), least_by_eye(graph))

    def test_no_nodes(self):
        self.assertEqual(least_clusters(Graph(0, [])), (0, []))

    def test_more_than_9_nodes(self):
        for graph in (Graph(10, []), clique(10), petersen()) + tuple(large_graphs()):
            with self.assertRaises(TooLarge):
                least_clusters(graph)


class LeftAsTheyWere(unittest.TestCase):
    def test_arguments(self):
        graph = Graph(10, CHAIN.edges)
        clusters, conflicts, paper = [[0, 1, 2], [3, 4, 5]], [(0, 2, 3)], [[0, 1], [2], [3], [4, 5]]
        whole = clusters + [[6, 7, 8], [9]]
        self.assertEqual(cost(graph, whole), 1)
        is_clustering(graph, whole)
        are_conflicts(graph, conflicts)
        refuses_clusters(graph, 0, paper)
        lift_clusters(graph, 1, clusters)
        for call in (pack_conflicts, classes, lambda graph: cluster_kernel(graph, 1)):
            call(graph)
        self.assertEqual((clusters, conflicts, paper),
                         ([[0, 1, 2], [3, 4, 5]], [(0, 2, 3)], [[0, 1], [2], [3], [4, 5]]))
        self.assertEqual(whole, [[0, 1, 2], [3, 4, 5], [6, 7, 8], [9]])
        self.assertEqual(graph, CHAIN)
        self.assertEqual([graph.neighbours(v) for v in range(10)], [CHAIN.neighbours(v) for v in range(10)])

    def test_lists_are_new(self):
        small = CHAIN.induced(list(range(6)))
        for call in (lambda: [pack_conflicts(CHAIN)], lambda: [classes(CHAIN)] + classes(CHAIN),
                     lambda: [cluster_kernel(CHAIN, 0)[1]] + cluster_kernel(CHAIN, 0)[1],
                     lambda: [cluster_kernel(CHAIN, 1)[0][1]],
                     lambda: [least_clusters(small)[1]] + least_clusters(small)[1],
                     lambda: lift_clusters(CHAIN, 1, [[0, 1, 2], [3, 4, 5]])):
            before = call()
            for told in call():
                told.append(None)
            self.assertEqual(call(), before)


if __name__ == "__main__":
    unittest.main()
