import time
import unittest

from cherrystone import graphs, ways
from tests.samples import large_graphs

MOST_SECONDS = 5


class Prompt(unittest.TestCase):
    """Graphs of 40 nodes, thin and dense, are answered in far less time than a slow search takes."""

    def timed(self, call, *given):
        start = time.process_time()
        answer = call(*given)
        self.assertLess(time.process_time() - start, MOST_SECONDS, call.__name__)
        return answer

    def test_graphs(self):
        for graph in large_graphs():
            self.timed(graphs.Graph, 40, graph.edges)
            self.timed(graphs.make_graph, 40, [(v, u) for u, v in graph.edges])
            self.timed(graph.induced, list(range(1, 40)))
            self.timed(graph.without, [0])
            self.timed(graph.complement)
            for call in (graphs.components, graphs.shortest_cycle, graphs.two_colours, graphs.degeneracy):
                self.timed(call, graph)
            self.timed(graphs.parse_graph, self.timed(graphs.format_graph, graph))
            self.timed(graphs.distances, graph, 0)
            nodes = list(range(40))
            for call in (graphs.is_list, graphs.is_path, graphs.is_cycle):
                self.timed(call, graph, nodes)

    def test_ways(self):
        for graph in large_graphs():
            first, second = list(range(25)), list(range(15, 40))
            told, separator = self.timed(ways.disjoint_ways, graph, first, second)
            self.timed(ways.are_ways, graph, first, second, told)
            self.timed(ways.separates, graph, first, second, separator)
            self.timed(ways.farthest, graph, first, second)
            self.timed(ways.connectivity, graph)
            if not graph.adjacent(0, 39):
                self.timed(ways.ways_between, graph, 0, 39)


if __name__ == "__main__":
    unittest.main()
