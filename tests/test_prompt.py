import random
import time
import unittest

from cherrystone import covers, cycles, graphs, hitting, matching, ways
from tests.samples import apart, clique, drawn, hung, large_families, large_graphs, petersen, ring, two_sides

MOST_SECONDS = 5


class Prompt(unittest.TestCase):
    """Graphs of 40 nodes and families of 300 sets are answered in far less time than a slow search takes."""

    def timed(self, call, *given):
        start = time.process_time()
        answer = call(*given)
        self.assertLess(time.process_time() - start, MOST_SECONDS, call.__name__)
        return answer

    def test_graphs(self):
        for graph in large_graphs():
            self.timed(graphs.Graph, 40, graph.edges)
            self.timed(graphs.make_graph, 40, [(v, u) for u, v in graph.edges])
            self.timed(graph.induced, list(range(1, 40)))
            self.timed(graph.without, [0])
            self.timed(graph.complement)
            for call in (graphs.components, graphs.shortest_cycle, graphs.two_colours, graphs.degeneracy):
                self.timed(call, graph)
            self.timed(graphs.parse_graph, self.timed(graphs.format_graph, graph))
            self.timed(graphs.distances, graph, 0)
            nodes = list(range(40))
            for call in (graphs.is_list, graphs.is_path, graphs.is_cycle):
                self.timed(call, graph, nodes)

    def test_ways(self):
        for graph in large_graphs():
            first, second = list(range(25)), list(range(15, 40))
            told, separator = self.timed(ways.disjoint_ways, graph, first, second)
            self.timed(ways.are_ways, graph, first, second, told)
            self.timed(ways.separates, graph, first, second, separator)
            self.timed(ways.farthest, graph, first, second)
            self.timed(ways.connectivity, graph)
            if not graph.adjacent(0, 39):
                self.timed(ways.ways_between, graph, 0, 39)

    def test_matchings(self):
        for graph in large_graphs():
            edges, barrier = self.timed(matching.greatest_matching, graph)
            self.timed(matching.is_matching, graph, edges)
            self.timed(matching.deficiency, graph, barrier)
            self.timed(matching.parts, graph)
            self.timed(matching.augment, graph, edges)
            self.timed(matching.augment, graph, edges[1:])

    def test_covers(self):
        for graph in large_graphs():
            cover, half = self.timed(covers.halves, graph)
            self.timed(covers.are_halves, graph, cover, half)
            self.timed(covers.refuses_cover, graph, 10, half)
            kernel = self.timed(covers.cover_kernel, graph, 40)
            self.timed(covers.lift_cover, graph, kernel, list(range(kernel[0].nodes)))
            self.timed(covers.is_cover, graph, list(range(40)))
            told = self.timed(covers.crown, graph)
            if told is not None:
                self.timed(covers.is_crown, graph, *told)

    def test_hitting_sets(self):
        for family in large_families():
            self.timed(hitting.Family, family.size, family.sets)
            for k in (0, 1, 2, 5, 40):
                self.timed(hitting.hitting_kernel, family, k)
            for p in (2, 3, 41):
                self.timed(hitting.sunflower, family, p)
            self.timed(hitting.hits, family, list(range(family.size)))
            self.timed(hitting.is_sunflower, family, (), list(range(len(family.sets))))
            if family.size <= 14:
                self.timed(hitting.least_hitting_set, family)

    def test_cycles(self):
        for graph in large_graphs():
            for k in (1, 5, 13, 40):
                self.timed(cycles.cycles_or_nodes, graph, k)
            kernel = self.timed(cycles.cycle_kernel, graph)
            self.timed(cycles.lift_meeting, graph, kernel, list(range(kernel[0].nodes)))
            self.timed(cycles.meets_cycles, graph, [])
            self.timed(cycles.are_disjoint_cycles, graph, [list(range(40))])

    def test_compressing(self):
        source = random.Random(1)
        for size in (6, 7):
            for percent in (2, 5, 10, 15, 20, 25, 30, 50, 100):
                for _ in range(5):
                    graph, nodes = hung(source, 40, size, percent / 100)
                    self.timed(cycles.compress, graph, nodes)

    def test_least_ones_of_14_nodes(self):
        for graph in [drawn(14, percent, 1) for percent in range(5, 100, 5)] + [
                clique(14), ring(14), ring(14, 2), ring(14, 3), two_sides(7, 7), apart(petersen(), clique(4))]:
            self.timed(covers.least_cover, graph)
            self.timed(cycles.least_meeting, graph)


if __name__ == "__main__":
    unittest.main()
