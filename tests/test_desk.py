import unittest
from itertools import combinations

from cherrystone.clusters import least_clusters
from cherrystone.colourful import longest_path, path_or_paper
from cherrystone.covers import is_cover, least_cover
from cherrystone.cycles import least_meeting, meets_cycles
from cherrystone.desk import Desk
from cherrystone.errors import BadLine
from cherrystone.graphs import Graph, components, format_graph
from cherrystone.matching import greatest_matching
from cherrystone.odd import is_odd_set, least_odd_set
from cherrystone.reductions import cycle_graph, is_clique, is_dominating, is_independent
from cherrystone.widths import best_decomposition, width_of
from tests.samples import all_graphs, clique, drawn, drawn_graphs, grid, large_graphs, petersen, ring, subsets
from tests.samples import two_sides

BOW = Graph(6, [(0, 1), (0, 2), (1, 2), (2, 3), (2, 4), (3, 4)])
# For each word behind `count` the number, and the greatest number of nodes for which it is told.
COUNTS = {
    "components": (40, lambda graph: len(components(graph))),
    "matching": (40, lambda graph: len(greatest_matching(graph)[0])),
    "cover": (14, lambda graph: len(least_cover(graph))),
    "meeting": (14, lambda graph: len(least_meeting(graph))),
    "clusters": (9, lambda graph: least_clusters(graph)[0]),
    "path": (13, lambda graph: len(longest_path(graph))),
    "width": (10, lambda graph: width_of(graph, best_decomposition(graph))),
    "odd": (13, lambda graph: len(least_odd_set(graph))),
}
TESTS = {"cover": is_cover, "meeting": meets_cycles, "odd": is_odd_set, "independent": is_independent,
         "clique": is_clique, "dominating": is_dominating}
FINE_LINES = ["show", "complement", "cycles", "count components", "count matching", "count cover", "count meeting",
              "count clusters", "count path", "count width", "count odd", "test cover -", "test meeting 0",
              "test odd 0,1",
              "test independent -", "test clique 0", "test dominating 0", "within cover 0", "within cover 40",
              "within path 1",
              "within path 7"]


def desk_with(graph):
    desk = Desk()
    if desk.do("graph " + format_graph(graph)) != "ok":
        raise AssertionError("the graph was not taken")
    return desk


def words_of(nodes):
    return ",".join(str(v) for v in nodes) if nodes else "-"


class Lines(unittest.TestCase):
    def test_graph_and_show(self):
        for graph in list(all_graphs(3)) + list(drawn_graphs(12, 1)) + list(large_graphs()):
            desk = Desk()
            self.assertEqual(desk.do("graph " + format_graph(graph)), "ok")
            self.assertEqual(desk.do("show"), format_graph(graph))
        desk = Desk()
        for text in ("4; 0-1 2-3", "4;", "0;", "40; 0-39 1-2"):
            self.assertEqual(desk.do("graph " + text), "ok")
            self.assertEqual(desk.do("show"), text)

    def test_each_desk_has_its_own_graph(self):
        one, two = desk_with(clique(3)), desk_with(Graph(2, []))
        self.assertEqual(one.do("complement"), "ok")
        self.assertEqual((one.do("show"), two.do("show")), ("3;", "2;"))

    def test_complement_and_cycles(self):
        for graph in list(all_graphs(4)) + [BOW, petersen(), ring(20), grid(1, 20), Graph(40, []), clique(8)]:
            desk = desk_with(graph)
            self.assertEqual(desk.do("cycles"), "ok")
            self.assertEqual(desk.do("show"), format_graph(cycle_graph(graph)))
            desk = desk_with(graph)
            self.assertEqual(desk.do("complement"), "ok")
            self.assertEqual(desk.do("show"), format_graph(graph.complement()))
            self.assertEqual(desk.do("complement"), "ok")
            self.assertEqual(desk.do("show"), format_graph(graph))
        desk = desk_with(Graph(2, [(0, 1)]))
        self.assertEqual([desk.do("cycles"), desk.do("show")], ["ok", "3; 0-1 0-2 1-2"])
        self.assertEqual([desk.do("cycles"), desk.do("show")], ["ok", "6; 0-1 0-2 0-3 0-4 1-2 1-3 1-5 2-4 2-5"])

    def test_counts(self):
        for graph in list(all_graphs(4)) + list(drawn_graphs(9, 1)) + [BOW, grid(2, 5), ring(13), two_sides(7, 7),
                                                                       petersen()]:
            desk = desk_with(graph)
            for word, (most, count) in COUNTS.items():
                right = str(count(graph)) if graph.nodes <= most else "too large"
                self.assertEqual(desk.do("count " + word), right)
                self.assertEqual(desk.do("show"), format_graph(graph))
        desk = desk_with(Graph(0, []))
        self.assertEqual([desk.do("count " + word) for word in COUNTS], ["0", "0", "0", "0", "0", "0", "-1", "0"])
        desk = desk_with(BOW)
        self.assertEqual([desk.do("count " + word) for word in COUNTS], ["2", "2", "3", "1", "2", "5", "2", "1"])

    def test_tests(self):
        for graph in list(all_graphs(3)) + list(drawn_graphs(6, 1)) + [BOW]:
            desk = desk_with(graph)
            for nodes in subsets(range(graph.nodes)):
                for word, test in TESTS.items():
                    right = "yes" if test(graph, nodes) else "no"
                    self.assertEqual(desk.do(f"test {word} {words_of(nodes)}"), right)
        desk = desk_with(Graph(40, [(0, 39), (10, 20)]))
        self.assertEqual(desk.do("test cover 0,10"), "yes")
        self.assertEqual(desk.do("test cover 10,39"), "yes")
        self.assertEqual(desk.do("test cover 39"), "no")
        self.assertEqual(desk.do("test clique 10,20"), "yes")
        self.assertEqual(desk.do("test independent " + words_of(list(range(40)))), "no")
        self.assertEqual(desk.do("test dominating " + words_of(list(range(40)))), "yes")

    def test_within(self):
        for graph in list(all_graphs(4)) + list(drawn_graphs(9, 1)) + [BOW, clique(14), Graph(14, []), ring(13)]:
            desk = desk_with(graph)
            least = len(least_cover(graph))
            for k in range(41):
                self.assertEqual(desk.do(f"within cover {k}"), "yes" if least <= k else "no")
            for k in range(1, 8):
                if graph.nodes < 14:
                    right = path_or_paper(graph, k)[0] == "path"
                    self.assertEqual(desk.do(f"within path {k}"), "yes" if right else "no")
            self.assertEqual(desk.do("show"), format_graph(graph))
        desk = desk_with(ring(40))
        self.assertEqual([desk.do(f"within path {k}") for k in range(1, 8)], ["yes"] * 2 + ["too large"] * 5)
        desk = desk_with(Graph(40, []))
        self.assertEqual([desk.do(f"within path {k}") for k in (1, 2, 3)], ["yes", "no", "too large"])
        desk = desk_with(Graph(0, []))
        self.assertEqual([desk.do("within cover 0"), desk.do("within path 1")], ["yes", "no"])


class TooLargeLines(unittest.TestCase):
    def test_exactly_as_the_functions_tell(self):
        for many in range(8, 17):
            for graph in (Graph(many, []), ring(many)):
                desk = desk_with(graph)
                for word, (most, _) in COUNTS.items():
                    self.assertEqual(desk.do("count " + word) == "too large", many > most, (word, many))
                for k in (0, 1, 40):
                    self.assertEqual(desk.do(f"within cover {k}") == "too large", many > 14)
                for k in range(1, 8):
                    few = len(list(combinations(range(many), k))) <= 2000
                    self.assertEqual(desk.do(f"within path {k}") == "too large", not few)

    def test_nothing_changes(self):
        for graph in (clique(9), ring(21), clique(40), Graph(40, [(0, 39)]), drawn(40, 50, 1)):
            desk = desk_with(graph)
            for line in ("cycles", "count cover", "count meeting", "count clusters", "count path", "count width",
                         "count odd",
                         "within cover 3", "within path 4"):
                if graph.nodes > 14 or line == "cycles":
                    self.assertEqual(desk.do(line), "too large")
                self.assertEqual(desk.do("show"), format_graph(graph))
        desk = desk_with(ring(20))
        self.assertEqual(desk.do("cycles"), "ok")
        self.assertEqual(desk.do("cycles"), "too large")
        self.assertEqual(desk.do("show"), format_graph(cycle_graph(ring(20))))

    def test_wrong_numbers_and_lists_come_first(self):
        desk = desk_with(clique(40))
        for line in ("within cover 41", "within path 8", "within path 0", "test clique 0,40", "within cover 03",
                     "within path x"):
            with self.assertRaises(BadLine, msg=line):
                desk.do(line)


class WrongLines(unittest.TestCase):
    def wrong(self, desk, line):
        """Checks that the line is none, and that nothing has changed."""
        before = desk.do("show")
        with self.assertRaises(BadLine, msg=line):
            desk.do(line)
        self.assertEqual(desk.do("show"), before)

    def test_no_graph_yet(self):
        for line in FINE_LINES + ["", "graph", "graph ", "graph 4", "graph 4; 0-1 0-1", "no", "test cover 0"]:
            desk = Desk()
            with self.assertRaises(BadLine, msg=line):
                desk.do(line)
            with self.assertRaises(BadLine, msg=line):
                desk.do("show")
            self.assertEqual(desk.do("graph 1;"), "ok")
            self.assertEqual(desk.do("show"), "1;")

    def test_fine_lines_with_something_more_or_less(self):
        desk = desk_with(BOW)
        for line in FINE_LINES:
            words = line.split(" ")
            for spoilt in (" " + line, line + " ", line + "\n", "\t" + line, line + " 0", line + " show", line.upper(),
                           line.replace(" ", "  ") + " " * (len(words) == 1), line.title(), line + ";", line + ",",
                           "." + line,
                           line[1:], " ".join(words[:-1]), " ".join(words + words[-1:]), " ".join([words[0]] + words),
                           line.replace(" ", "\t") + "\t" * (len(words) == 1), line + "\0",
                           line.replace("o", "\u043e") + "\u043e"):
                self.wrong(desk, spoilt)

    def test_words(self):
        desk = desk_with(BOW)
        for line in ("", " ", "graph", "count", "test", "within", "count all", "count independent", "test path 0",
                     "test matching -",
                     "test components -", "test width -", "within odd 1", "within meeting 1", "within 1",
                     "within cover", "test cover",
                     "within cover 1 2", "test clique 0 1", "count components 1", "show all", "complement 1",
                     "cycles 1", "quit",
                     "graph4;", "Graph 4;", "test clique", "count cover,path"):
            self.wrong(desk, line)

    def test_texts(self):
        desk = desk_with(BOW)
        for text in ("", " ", "4", "4 ;", ";", "4;0-1", "4; ", "4;  0-1", "4; 0-1 ", "4; 1-0", "4; 0-1 0-1",
                     "4; 2-3 0-1", "4; 0-4",
                     "04;", "4; 00-1", "4; 0-01", "41;", "-1;", "+4;", "4; 0 1", "4; 0-1,2-3", "4; 0-1; 2-3", " 4;",
                     "4;\n", "4; 0-0",
                     "four;", "4; 0-1 2", "4; 0-1-2", "4; -1", "4.0;", "\u0664;", "4; 0-\u0661", "4;\t0-1", "graph 4;",
                     "99999999999;"):
            self.wrong(desk, "graph " + text)
        self.assertEqual(desk.do("graph 4; 0-1"), "ok")
        self.assertEqual(desk.do("show"), "4; 0-1")

    def test_lists(self):
        desk = desk_with(BOW)
        for word in TESTS:
            for told in ("", "--", "6", "40", "0,6", "1,0", "0,0", "0,1,1", ",", "0,", ",0", "0,,1", "0,-", "-,0", "-1",
                         "+1", "00", "01",
                         "0,01", "0;1", "0-1", "a", "0x1", "1.0", "[0]", "(0)", "0, 1", "0 1", "1_0", "\u0660",
                         "\u00b2", "1e0", "None",
                         "0000000000", "1000000000", "999999999", "99999999999999999999", "0\n", "0,1\t"):
                self.wrong(desk, f"test {word} {told}")
        self.wrong(desk_with(Graph(0, [])), "test cover 0")
        self.assertEqual(desk_with(Graph(0, [])).do("test cover -"), "yes")

    def test_numbers(self):
        desk = desk_with(BOW)
        for told in ("", "-", "41", "100", "999999999", "9999999999", "1000000000000", "-1", "+1", "01", "00", "1.0",
                     "1,2", "x", "0x1",
                     "\u0661", "1_0", " 1", "1 ", "1\n", "0000000001", "True", "None"):
            self.wrong(desk, "within cover " + told)
            self.wrong(desk, "within path " + told)
        for told in ("0", "8", "9", "40"):
            self.wrong(desk, "within path " + told)
            self.assertIn(desk.do("within cover " + told), ("yes", "no"))

    def test_values_of_all_kinds(self):
        desk = desk_with(BOW)
        for value in (None, 0, 1, True, 2.0, b"show", b"", ("show",), ["show"], {"show": 1}, {"show"}, object(), str,
                      [], ()):
            self.wrong(desk, value)
            with self.assertRaises(BadLine):
                Desk().do(value)


if __name__ == "__main__":
    unittest.main()
