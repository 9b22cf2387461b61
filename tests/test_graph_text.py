import unittest

from cherrystone.errors import BadText
from cherrystone.graphs import Graph, format_graph, parse_graph
from tests.samples import all_graphs, drawn_graphs, large_graphs, pairs_of

WRONG = (
    "", " ", ";", "; 0-1", "4", "4 ;", " 4;", "4; ", "4;  0-1", "4; 0-1 ", "4; 0-1  2-3", "4;0-1", "4; 0-1;",
    "4; 0-1, 2-3", "4; 0-1;2-3", "4; 0 - 1", "4; 0- 1", "4; 0 -1", "4; 0", "4; 0-", "4; -1", "4; -", "4; 0-1-2",
    "4; 0--1", "4; 1-0", "4; 1-1", "4; 0-4", "4; 4-5", "4; 2-3 0-1", "4; 0-1 0-1", "4; 0-2 0-1", "04;", "00;",
    "4; 00-1", "4; 0-01", "4; 01-2", "41;", "100;", "-1;", "+4;", "4.0;", "4;; 0-1", "4;;", "4:", "4: 0-1", "x;",
    "4; a-b", "4; 0-b", "4; 0:1", "4; 0_1", "4; 0-1\n", "4;\n", "\n4;", "4;\t0-1", "4;\n0-1", "4; 0-1\t2-3",
    "4; +0-1", "4; 0-+1", "4; 0-1 ;", "4; ;", "4 0-1", "4, 0-1", "1_0;", "10; 0-1_0", "4;\u00a00-1", "\u0664;",
    "4; 0-\u0661", "\u00b2;", "4; 0-\u00b2", "4; 0\u20131", "4; (0, 1)", "4; 0-1 2-", "0; 0-0", "1; 0-1", "4;\x00",
    "9" * 5000 + ";", "4; 0-" + "1" * 5000, "4;" + " 0-1" * 1000, "40; 39-40", "None", "Graph(4, [])",
)


class TextualForm(unittest.TestCase):
    def test_by_example(self):
        for text, graph in (("0;", Graph(0, [])), ("4;", Graph(4, [])), ("40;", Graph(40, [])),
                            ("4; 0-1 2-3", Graph(4, [(0, 1), (2, 3)])), ("40; 0-39", Graph(40, [(0, 39)])),
                            ("11; 0-9 0-10 9-10", Graph(11, [(0, 9), (0, 10), (9, 10)]))):
            self.assertEqual(format_graph(graph), text)
            self.assertEqual(parse_graph(text), graph)

    def test_there_and_back(self):
        for graph in list(all_graphs(4)) + list(drawn_graphs(15, 3)) + list(large_graphs()):
            text = format_graph(graph)
            self.assertEqual(parse_graph(text), graph)
            self.assertEqual(format_graph(parse_graph(text)), text)

    def test_numbers_of_nodes(self):
        for many in range(41):
            self.assertEqual(parse_graph(f"{many};"), Graph(many, []))
        self.assertEqual(parse_graph(format_graph(Graph(40, pairs_of(40)))).many, 780)

    def test_what_is_not_the_textual_form(self):
        for text in WRONG:
            with self.assertRaises(BadText, msg=text):
                parse_graph(text)

    def test_values_of_other_kinds(self):
        for value in (None, True, 4, 4.0, b"4;", [], ["4;"], ("4;",), {}, Graph(4, []), object()):
            with self.assertRaises(BadText, msg=value):
                parse_graph(value)

    def test_texts_with_one_character_more_or_less(self):
        text = "12; 0-11 3-4"
        for at in range(len(text) + 1):
            for letter in ("", " ", ";", "-", "0", "1"):
                self.exact(text[:at] + letter + text[at:])
                self.exact(text[:at] + letter + text[at + 1:])

    def exact(self, text):
        """Checks that a text is refused, or is just what the graph read from it is written as."""
        try:
            graph = parse_graph(text)
        except BadText:
            return
        self.assertEqual(format_graph(graph), text)


if __name__ == "__main__":
    unittest.main()
