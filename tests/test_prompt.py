import random
import time
import unittest

from cherrystone import (clusters, colourful, covers, cycles, desk, graphs, hitting, matching, odd, places, reductions,
                         tables, ways, widths)
from tests.samples import (apart, clique, drawn, grid, hung, large_families, large_graphs, patched, petersen, ring,
                           two_sides, wide_decompositions)

MOST_SECONDS = 5


class Prompt(unittest.TestCase):
    """Graphs of 40 nodes and families of 300 sets are answered in far less time than a slow search takes."""

    def timed(self, call, *given):
        start = time.process_time()
        answer = call(*given)
        self.assertLess(time.process_time() - start, MOST_SECONDS, call.__name__)
        return answer

    def test_graphs(self):
        for graph in large_graphs():
            self.timed(graphs.Graph, 40, graph.edges)
            self.timed(graphs.make_graph, 40, [(v, u) for u, v in graph.edges])
            self.timed(graph.induced, list(range(1, 40)))
            self.timed(graph.without, [0])
            self.timed(graph.complement)
            for call in (graphs.components, graphs.shortest_cycle, graphs.two_colours, graphs.degeneracy):
                self.timed(call, graph)
            self.timed(graphs.parse_graph, self.timed(graphs.format_graph, graph))
            self.timed(graphs.distances, graph, 0)
            nodes = list(range(40))
            for call in (graphs.is_list, graphs.is_path, graphs.is_cycle):
                self.timed(call, graph, nodes)

    def test_ways(self):
        for graph in large_graphs():
            first, second = list(range(25)), list(range(15, 40))
            told, separator = self.timed(ways.disjoint_ways, graph, first, second)
            self.timed(ways.are_ways, graph, first, second, told)
            self.timed(ways.separates, graph, first, second, separator)
            self.timed(ways.farthest, graph, first, second)
            self.timed(ways.connectivity, graph)
            if not graph.adjacent(0, 39):
                self.timed(ways.ways_between, graph, 0, 39)

    def test_matchings(self):
        for graph in large_graphs():
            edges, barrier = self.timed(matching.greatest_matching, graph)
            self.timed(matching.is_matching, graph, edges)
            self.timed(matching.deficiency, graph, barrier)
            self.timed(matching.parts, graph)
            self.timed(matching.augment, graph, edges)
            self.timed(matching.augment, graph, edges[1:])

    def test_covers(self):
        for graph in large_graphs():
            cover, half = self.timed(covers.halves, graph)
            self.timed(covers.are_halves, graph, cover, half)
            self.timed(covers.refuses_cover, graph, 10, half)
            kernel = self.timed(covers.cover_kernel, graph, 40)
            self.timed(covers.lift_cover, graph, kernel, list(range(kernel[0].nodes)))
            self.timed(covers.is_cover, graph, list(range(40)))
            told = self.timed(covers.crown, graph)
            if told is not None:
                self.timed(covers.is_crown, graph, *told)

    def test_hitting_sets(self):
        for family in large_families():
            self.timed(hitting.Family, family.size, family.sets)
            for k in (0, 1, 2, 5, 40):
                self.timed(hitting.hitting_kernel, family, k)
            for p in (2, 3, 41):
                self.timed(hitting.sunflower, family, p)
            self.timed(hitting.hits, family, list(range(family.size)))
            self.timed(hitting.is_sunflower, family, (), list(range(len(family.sets))))
            if family.size <= 14:
                self.timed(hitting.least_hitting_set, family)

    def test_cycles(self):
        for graph in large_graphs():
            for k in (1, 5, 13, 40):
                self.timed(cycles.cycles_or_nodes, graph, k)
            kernel = self.timed(cycles.cycle_kernel, graph)
            self.timed(cycles.lift_meeting, graph, kernel, list(range(kernel[0].nodes)))
            self.timed(cycles.meets_cycles, graph, [])
            self.timed(cycles.are_disjoint_cycles, graph, [list(range(40))])

    def test_compressing(self):
        source = random.Random(1)
        for size in (6, 7):
            for percent in (2, 5, 10, 15, 20, 25, 30, 50, 100):
                for _ in range(5):
                    graph, nodes = hung(source, 40, size, percent / 100)
                    self.timed(cycles.compress, graph, nodes)

    def test_least_ones_of_14_nodes(self):
        for graph in [drawn(14, percent, 1) for percent in range(5, 100, 5)] + [
                clique(14), ring(14), ring(14, 2), ring(14, 3), two_sides(7, 7), apart(petersen(), clique(4))]:
            self.timed(covers.least_cover, graph)
            self.timed(cycles.least_meeting, graph)

    def test_clusters(self):
        for graph in large_graphs():
            self.timed(clusters.pack_conflicts, graph)
            self.timed(clusters.are_conflicts, graph, clusters.pack_conflicts(graph))
            self.timed(clusters.classes, graph)
            self.timed(clusters.cost, graph, [[v] for v in range(40)])
            for k in (0, 1, 10, 20):
                kernel, paper = self.timed(clusters.cluster_kernel, graph, k)
                self.timed(clusters.refuses_clusters, graph, k, paper)
                if kernel is not None:
                    parts = graphs.components(kernel[0])
                    if clusters.cost(kernel[0], parts) <= k:
                        self.timed(clusters.lift_clusters, graph, k, parts)
        for graph in [drawn(9, percent, seed) for percent in range(10, 100, 10) for seed in range(3)] + [
                clique(9), ring(9), ring(9, 2), grid(3, 3), two_sides(4, 5), petersen().without([0])]:
            self.timed(clusters.least_clusters, graph)

    def test_colourful_paths(self):
        for graph in large_graphs():
            for k in range(1, 8):
                colours = [v * v % k for v in range(40)]
                self.timed(colourful.colourful_path, graph, colours, k)
                self.timed(colourful.colourful_count, graph, [v % k for v in range(40)], k)
            for cover in (list(range(40)), list(range(20)), list(range(0, 40, 2))):
                if covers.is_cover(graph, cover):
                    self.timed(colourful.path_kernel, graph, cover)
        for n, k in ((40, 1), (40, 2), (23, 3), (16, 4), (13, 5), (13, 6), (13, 7)):
            family = self.timed(colourful.separating_family, n, k)
            self.timed(colourful.is_separating, n, k, family)
            for graph in (graphs.Graph(n, []), clique(n), ring(n), two_sides(3, n - 3), drawn(n, 15, 1)):
                self.timed(colourful.path_or_paper, graph, k)
                self.timed(colourful.refuses_path, graph, k, family)
        for graph in (clique(13), ring(13), two_sides(6, 7), two_sides(3, 10), drawn(13, 30, 1), drawn(13, 60, 1)):
            self.timed(colourful.longest_path, graph)

    def test_places(self):
        for graph in large_graphs():
            for told in ([[0], [39]], [[0, 1], [20], [38, 39]], [[v] for v in range(0, 40, 3)]):
                if places.are_places(graph, told):
                    self.timed(places.grow, graph, told)
                    ways_out, _ = self.timed(places.strength, graph, told, 0)
                    k = max(0, len(ways_out) - 1)
                    self.timed(places.refuses_cut, graph, told, k, 0, ways_out)
                    if ways_out:
                        self.timed(places.cut_or_paper, graph, told, k)
                    self.timed(places.is_cutting, graph, told, [])
        source = random.Random(2)
        for many in (2, 3, 6, 12, 28):
            for percent in (10, 20, 40, 70):
                pairs = [(u, v) for u in range(12) for v in range(u + 1, 12 + many) if source.random() * 100 < percent]
                graph, told = graphs.Graph(12 + many, pairs), [[v] for v in range(12, 12 + many)]
                self.timed(places.cut, graph, told)
                self.timed(places.cut_or_paper, graph, told, 12)

    def test_widths(self):
        for graph in large_graphs():
            told = self.timed(widths.eliminate, graph, list(range(40)))
            self.timed(widths.is_decomposition, graph, told)
            self.timed(widths.width_of, graph, told)
            for cover in (list(range(40)), list(range(20)), list(range(0, 40, 2)), [0, 1, 2]):
                for w in (0, 2, 9):
                    if covers.is_cover(graph, cover):
                        kernel, paper = self.timed(widths.width_kernel, graph, cover, w)
                        if paper is not None:
                            self.timed(widths.refuses_width, graph, w, *paper)
                        else:
                            told = widths.eliminate(kernel[0], list(range(kernel[0].nodes)))
                            self.timed(widths.lift_decomposition, graph, kernel, told)
        for graph in [drawn(10, percent, 1) for percent in range(10, 100, 10)] + [clique(10), petersen(), ring(10, 2)]:
            self.timed(widths.best_decomposition, graph)
            small = graph.without([4, 9])
            for k in range(10):
                told = self.timed(widths.greatest_refuge, small, k)
                self.timed(widths.is_refuge, small, k, told)

    def test_tables(self):
        for graph, told in wide_decompositions():
            self.timed(tables.independent_counts, graph, told)
            for q in range(5):
                self.timed(tables.colouring_count, graph, told, q)
            self.timed(tables.least_domination, graph, told)

    def test_odd_sets(self):
        for graph in large_graphs():
            self.timed(odd.is_odd_set, graph, [])
            self.timed(odd.are_odd_cycles, graph, [list(range(39))])
        source = random.Random(3)
        cases = [patched(source, 40, 5, percent / 100) for percent in (5, 10, 20, 40, 70, 100) for _ in range(5)]
        for graph, nodes in cases + [(clique(7), [0, 1, 2, 3, 4]), (apart(*[clique(3)] * 5), [0, 3, 6, 9, 12])]:
            _, rows = self.timed(odd.fewer_odd, graph, nodes)
            self.timed(odd.refuses_odd, graph, nodes, rows)
        for graph in [drawn(13, percent, 1) for percent in range(10, 100, 10)] + [clique(13), ring(13),
                                                                                  two_sides(6, 7)]:
            self.timed(odd.least_odd_set, graph)

    def test_reductions(self):
        for graph in large_graphs():
            nodes = list(range(40))
            for call in (reductions.is_independent, reductions.is_clique, reductions.is_dominating,
                         reductions.other_nodes):
                self.timed(call, graph, nodes)
            self.timed(reductions.coloured_copies, graph, 1)
        for many, k in ((5, 8), (20, 2), (40, 1)):
            self.timed(reductions.coloured_copies, clique(many), k)
            nodes = self.timed(reductions.to_copies, clique(many), k, list(range(k))) if many >= k else []
            self.timed(reductions.is_coloured_clique, clique(many), k, nodes)
        for graph in (clique(8), ring(20), graphs.Graph(40, [])):
            self.timed(reductions.cycle_graph, graph)
            self.timed(reductions.from_cycles, graph, self.timed(reductions.to_cycles, graph, list(range(graph.nodes))))
        family = hitting.Family(10, [(v, v + 1) for v in range(9)])
        self.timed(reductions.domination_graph, family)
        self.timed(reductions.from_domination, family, self.timed(reductions.to_domination, family, list(range(10))))

    def test_the_desk(self):
        counts = ("components", "matching", "cover", "meeting", "clusters", "path", "width", "odd")
        for graph in list(large_graphs()) + [clique(many) for many in (9, 10, 13, 14)] + [
                drawn(many, percent, 1) for many in (9, 10, 13, 14) for percent in (20, 40, 60, 80)]:
            keeper = desk.Desk()
            self.timed(keeper.do, "graph " + graphs.format_graph(graph))
            for line in [f"count {word}" for word in counts] + [f"within path {k}" for k in range(1, 8)] + [
                    "within cover 7", "complement", "show", "cycles"]:
                self.timed(keeper.do, line)


if __name__ == "__main__":
    unittest.main()
