import random
import unittest
from itertools import combinations, product
from math import comb

from cherrystone.errors import BadArgument, TooLarge
from cherrystone.graphs import Graph
from cherrystone.tables import colouring_count, independent_counts, least_domination
from cherrystone.widths import best_decomposition, eliminate, is_decomposition, width_of
from tests.samples import all_graphs, apart, clique, drawn_graphs, grid, large_graphs, near_sets, not_numbers
from tests.samples import petersen, ring, subsets, two_sides, wrong_values

LINE = Graph(4, [(0, 1), (1, 2), (2, 3)])
BAGS = ([[0, 1], [1, 2], [2, 3]], [(0, 1), (1, 2)])


def independents_by_eye(graph):
    counts = [0] * (graph.nodes + 1)
    edges = set(graph.edges)
    for nodes in subsets(range(graph.nodes)):
        counts[len(nodes)] += not any(pair in edges for pair in combinations(nodes, 2))
    return counts


def colourings_by_eye(graph, q):
    lists = product(range(q), repeat=graph.nodes)
    return sum(all(colours[u] != colours[v] for u, v in graph.edges) for colours in lists)


def dominates(graph, nodes):
    near = near_sets(graph)
    return all(v in nodes or near[v] & set(nodes) for v in range(graph.nodes))


def domination_by_eye(graph):
    return next(len(nodes) for nodes in subsets(range(graph.nodes)) if dominates(graph, nodes))


def mixed(decomposition, source):
    """The same bags in another order, with empty bags, doubled bags and parts of bags hung to them."""
    bags, links = [list(bag) for bag in decomposition[0]], list(decomposition[1])
    for _ in range(source.randrange(6)):
        at = source.randrange(len(bags))
        part = source.choice(([], bags[at], bags[at], [v for v in bags[at] if source.random() < 0.6]))
        if source.random() < 0.5:
            links.append((at, len(bags)))
        elif links and part == bags[at]:
            # The doubled bag takes over a link of the bag.
            held = [pair for pair in links if at in pair]
            if held:
                links.remove(held[0])
                other = sum(held[0]) - at
                links += [(at, len(bags)), (other, len(bags))]
            else:
                links.append((at, len(bags)))
        else:
            links.append((at, len(bags)))
        bags.append(list(part))
    names = source.sample(range(len(bags)), len(bags))
    told = [[] for _ in bags]
    for at, bag in zip(names, bags):
        told[at] = bag
    return told, sorted(tuple(sorted((names[i], names[j]))) for i, j in links)


def decompositions(graph, source, many):
    """Several decompositions of the graph with a width of at most 5."""
    found = []
    if graph.nodes <= 6:
        found.append(([list(range(graph.nodes))], []))
    if graph.nodes <= 10:
        found.append(best_decomposition(graph))
    for _ in range(many):
        found.append(eliminate(graph, source.sample(range(graph.nodes), graph.nodes)))
    found = [one for one in found if width_of(graph, one) <= 5]
    return found + [mixed(one, source) for one in found for _ in range(2)]


class Rules(unittest.TestCase):
    """Each of the three functions against all lists, over several decompositions of each graph."""

    def cases(self):
        source = random.Random(1)
        for graph in list(all_graphs(4)) + list(drawn_graphs(6, 2)) + list(drawn_graphs(8, 1)) + [
                ring(8), grid(2, 4), grid(3, 3), two_sides(3, 5), two_sides(1, 7), clique(6),
                apart(clique(3), ring(5))]:
            yield graph, decompositions(graph, source, 3)

    def test_mixed_ones_are_decompositions(self):
        many = 0
        for graph, told in self.cases():
            for decomposition in told:
                self.assertIs(is_decomposition(graph, decomposition), True)
                many += 1
        self.assertGreater(many, 500)

    def test_independent_counts(self):
        for graph, told in self.cases():
            right = independents_by_eye(graph)
            for decomposition in told:
                self.assertEqual(independent_counts(graph, decomposition), right)

    def test_colouring_counts(self):
        for graph, told in self.cases():
            for q in range(5 if graph.nodes < 8 else 4):
                right = colourings_by_eye(graph, q)
                for decomposition in told:
                    self.assertEqual(colouring_count(graph, decomposition, q), right)

    def test_least_dominations(self):
        for graph, told in self.cases():
            right = domination_by_eye(graph)
            for decomposition in told:
                nodes = least_domination(graph, decomposition)
                self.assertEqual(nodes, sorted(set(nodes)))
                self.assertTrue(dominates(graph, nodes))
                self.assertEqual(len(nodes), right)

    def test_10_nodes(self):
        source = random.Random(2)
        for graph in list(drawn_graphs(10, 1)) + [petersen(), grid(2, 5), ring(10, 2)]:
            told = decompositions(graph, source, 2)
            independent, dominating = independents_by_eye(graph), domination_by_eye(graph)
            for decomposition in told:
                self.assertEqual(independent_counts(graph, decomposition), independent)
                self.assertEqual(len(least_domination(graph, decomposition)), dominating)
                self.assertEqual(colouring_count(graph, decomposition, 2), colourings_by_eye(graph, 2))


class KnownNumbers(unittest.TestCase):
    def test_no_nodes(self):
        graph = Graph(0, [])
        for decomposition in (([[]], []), ([[], [], []], [(0, 2), (1, 2)])):
            self.assertEqual(independent_counts(graph, decomposition), [1])
            self.assertEqual([colouring_count(graph, decomposition, q) for q in range(5)], [1] * 5)
            self.assertEqual(least_domination(graph, decomposition), [])

    def test_one_node(self):
        for decomposition in (([[0]], []), ([[], [0], [0], []], [(0, 1), (1, 2), (1, 3)])):
            self.assertEqual(independent_counts(Graph(1, []), decomposition), [1, 1])
            self.assertEqual([colouring_count(Graph(1, []), decomposition, q) for q in range(5)], [0, 1, 2, 3, 4])
            self.assertEqual(least_domination(Graph(1, []), decomposition), [0])

    def test_40_nodes_without_edges(self):
        graph = Graph(40, [])
        for decomposition in (eliminate(graph, list(range(40))),
                              ([[v] for v in range(40)], [(0, v) for v in range(1, 40)]),
                              ([list(range(k, min(40, k + 6))) for k in range(0, 40, 6)],
                               [(k, k + 1) for k in range(6)])):
            self.assertEqual(independent_counts(graph, decomposition), [comb(40, size) for size in range(41)])
            self.assertEqual([colouring_count(graph, decomposition, q) for q in range(5)], [q ** 40 for q in range(5)])
            self.assertEqual(least_domination(graph, decomposition), list(range(40)))

    def test_lines_and_rings_of_40_nodes(self):
        line, around = grid(1, 40), ring(40)
        bags = ([[v, v + 1] for v in range(39)], [(v, v + 1) for v in range(38)])
        self.assertEqual(independent_counts(line, bags), [comb(41 - size, size) for size in range(41)])
        self.assertEqual([colouring_count(line, bags, q) for q in range(1, 5)],
                         [q * (q - 1) ** 39 for q in range(1, 5)])
        self.assertEqual(len(least_domination(line, bags)), 14)
        wide = ([[0, v, v + 1] for v in range(1, 39)], [(v, v + 1) for v in range(37)])
        self.assertEqual(independent_counts(around, wide), [comb(40 - size,
                                                                 size) * 40 // (40 - size) if size < 40 else 0
                                                            for size in range(41)])
        self.assertEqual([colouring_count(around, wide, q) for q in range(1, 5)],
                         [(q - 1) ** 40 + q - 1 for q in range(1, 5)])
        self.assertEqual(len(least_domination(around, wide)), 14)

    def test_grids(self):
        graph = grid(5, 8)
        told = eliminate(graph, [r * 8 + c for c in range(8) for r in range(5)])
        self.assertEqual(width_of(graph, told), 5)
        # Column by column: the ways to end with each mask of a column that has no two nodes side by side.
        masks = [mask for mask in range(32) if not mask & mask << 1]
        ways = {mask: 1 for mask in masks}
        for _ in range(7):
            ways = {mask: sum(ways[other] for other in masks if not mask & other) for mask in masks}
        self.assertEqual(sum(independent_counts(graph, told)), sum(ways.values()))
        self.assertEqual(colouring_count(graph, told, 2), 2)
        self.assertEqual(len(least_domination(graph, told)), 11)

    def test_stars_and_cliques(self):
        star = two_sides(1, 39)
        bags = ([[0, v] for v in range(1, 40)], [(0, v) for v in range(1, 39)])
        self.assertEqual(least_domination(star, bags), [0])
        self.assertEqual(colouring_count(star, bags, 3), 3 * 2 ** 39)
        self.assertEqual(independent_counts(star, bags), [1, 40] + [comb(39, size) for size in range(2, 40)] + [0])
        six = apart(*[clique(6)] * 6)
        bags = ([list(range(6 * k, 6 * k + 6)) for k in range(6)], [(0, k) for k in range(1, 6)])
        self.assertEqual(independent_counts(six, bags)[:7], [comb(6, k) * 6 ** k for k in range(7)])
        self.assertEqual(colouring_count(six, bags, 4), 0)
        self.assertEqual(len(least_domination(six, bags)), 6)


class Arguments(unittest.TestCase):
    def calls(self, graph, decomposition):
        yield lambda: independent_counts(graph, decomposition)
        yield lambda: least_domination(graph, decomposition)
        for q in range(5):
            yield lambda: colouring_count(graph, decomposition, q)

    def test_too_wide(self):
        for graph, decomposition in ((Graph(7, []), ([list(range(7))], [])), (clique(7), ([list(range(7))], [])),
                                     (Graph(7, []), ([[0], list(range(7)), []], [(0, 1), (1, 2)])),
                                     (Graph(40, []), ([list(range(40))], []))):
            for call in self.calls(graph, decomposition):
                with self.assertRaises(TooLarge):
                    call()
        for graph in large_graphs():
            told = eliminate(graph, list(range(40)))
            for call in self.calls(graph, told):
                if width_of(graph, told) > 5:
                    with self.assertRaises(TooLarge):
                        call()
                else:
                    call()
        for graph in (Graph(6, []), clique(6)):
            for call in self.calls(graph, ([list(range(6))], [])):
                call()

    def test_what_is_no_decomposition(self):
        for value in wrong_values() + [([], []), ([[]], []), (BAGS[0], []), list(BAGS), (BAGS[0], [(0, 1), (0, 2)]),
                                       ([[0, 1], [1, 2], [2]], [(0, 1), (1, 2)]), ([[0, 1, 2, 3, 4]], []),
                                       (tuple(BAGS[0]), [])]:
            for call in self.calls(LINE, value):
                with self.assertRaises(BadArgument, msg=value):
                    call()

    def test_wrong_numbers_of_colours(self):
        for q in not_numbers(0, 4) + [-1, 5]:
            for graph, decomposition in ((LINE, BAGS), (Graph(0, []), ([[]], [])), (clique(7), ([list(range(7))], [])),
                                         (LINE, None)):
                with self.assertRaises(BadArgument, msg=q):
                    colouring_count(graph, decomposition, q)

    def test_too_wide_and_no_decomposition(self):
        # Of both errors, that for the wrong argument is raised.
        for wrong in (([list(range(7))], [(0, 0)]), ([list(range(6))], []), ([list(range(7)), [8]], [(0, 1)])):
            for call in self.calls(clique(7), wrong):
                with self.assertRaises(BadArgument):
                    call()


class LeftAsTheyWere(unittest.TestCase):
    def test_arguments_and_new_lists(self):
        graph, told = Graph(4, LINE.edges), ([[0, 1], [1, 2], [2, 3]], [(0, 1), (1, 2)])
        for call in (independent_counts, least_domination, lambda *given: colouring_count(*given, 3)):
            call(graph, told)
        self.assertEqual(told, BAGS)
        self.assertEqual(graph, LINE)
        self.assertEqual([graph.neighbours(v) for v in range(4)], [LINE.neighbours(v) for v in range(4)])
        for call in (independent_counts, least_domination):
            before = call(LINE, BAGS)
            call(LINE, BAGS).append(None)
            self.assertEqual(call(LINE, BAGS), before)


if __name__ == "__main__":
    unittest.main()
