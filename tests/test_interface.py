import inspect
import unittest

from cherrystone import (clusters, colourful, covers, cycles, desk, errors, graphs, hitting, matching, odd, places,
                         reductions, tables, ways, widths)

FUNCTIONS = {
    graphs: {
        "make_graph": ["nodes", "pairs"], "is_list": ["graph", "nodes"], "is_path": ["graph", "nodes"],
        "is_cycle": ["graph", "nodes"], "components": ["graph"], "distances": ["graph", "v"],
        "shortest_cycle": ["graph"], "two_colours": ["graph"], "degeneracy": ["graph"], "format_graph": ["graph"],
        "parse_graph": ["text"],
    },
    ways: {
        "disjoint_ways": ["graph", "first", "second"], "are_ways": ["graph", "first", "second", "ways"],
        "separates": ["graph", "first", "second", "nodes"], "ways_between": ["graph", "u", "v"],
        "farthest": ["graph", "first", "second"], "connectivity": ["graph"],
    },
    matching: {
        "is_matching": ["graph", "edges"], "deficiency": ["graph", "nodes"], "greatest_matching": ["graph"],
        "parts": ["graph"], "augment": ["graph", "edges"],
    },
    covers: {
        "is_cover": ["graph", "nodes"], "are_halves": ["graph", "cover", "matching"],
        "is_crown": ["graph", "free", "head", "matching"], "halves": ["graph"], "cover_kernel": ["graph", "k"],
        "refuses_cover": ["graph", "k", "matching"], "lift_cover": ["graph", "kernel", "nodes"],
        "least_cover": ["graph"], "crown": ["graph"],
    },
    hitting: {
        "hits": ["family", "chosen"], "is_sunflower": ["family", "core", "petals"], "sunflower": ["family", "p"],
        "hitting_kernel": ["family", "k"], "least_hitting_set": ["family"],
    },
    cycles: {
        "meets_cycles": ["graph", "nodes"], "are_disjoint_cycles": ["graph", "cycles"], "cycle_kernel": ["graph"],
        "lift_meeting": ["graph", "kernel", "nodes"], "least_meeting": ["graph"], "cycles_or_nodes": ["graph", "k"],
        "compress": ["graph", "nodes"],
    },
    clusters: {
        "is_clustering": ["graph", "clusters"], "are_conflicts": ["graph", "conflicts"], "cost": ["graph", "clusters"],
        "pack_conflicts": ["graph"], "classes": ["graph"], "cluster_kernel": ["graph", "k"],
        "refuses_clusters": ["graph", "k", "paper"], "lift_clusters": ["graph", "k", "clusters"],
        "least_clusters": ["graph"],
    },
    colourful: {
        "is_colouring": ["n", "k", "colouring"], "is_separating": ["n", "k", "family"],
        "is_colourful": ["graph", "colouring", "k", "nodes"], "colourful_path": ["graph", "colouring", "k"],
        "colourful_count": ["graph", "colouring", "k"], "separating_family": ["n", "k"],
        "path_or_paper": ["graph", "k"], "refuses_path": ["graph", "k", "family"], "longest_path": ["graph"],
        "path_kernel": ["graph", "cover"], "lift_path": ["graph", "cover", "path"],
    },
    places: {
        "are_places": ["graph", "places"], "is_cutting": ["graph", "places", "nodes"],
        "refuses_cut": ["graph", "places", "k", "index", "ways"], "strength": ["graph", "places", "index"],
        "grow": ["graph", "places"], "cut": ["graph", "places"], "cut_or_paper": ["graph", "places", "k"],
    },
    widths: {
        "is_decomposition": ["graph", "decomposition"], "is_refuge": ["graph", "k", "positions"],
        "refuses_width": ["graph", "w", "trace", "clique"], "width_of": ["graph", "decomposition"],
        "eliminate": ["graph", "order"], "best_decomposition": ["graph"], "greatest_refuge": ["graph", "k"],
        "width_kernel": ["graph", "cover", "w"], "lift_decomposition": ["graph", "kernel", "decomposition"],
    },
    tables: {
        "independent_counts": ["graph", "decomposition"], "colouring_count": ["graph", "decomposition", "q"],
        "least_domination": ["graph", "decomposition"],
    },
    odd: {
        "is_odd_set": ["graph", "nodes"], "are_odd_cycles": ["graph", "cycles"],
        "refuses_odd": ["graph", "nodes", "rows"], "fewer_odd": ["graph", "nodes"], "least_odd_set": ["graph"],
    },
    reductions: {
        "is_independent": ["graph", "nodes"], "is_clique": ["graph", "nodes"], "is_dominating": ["graph", "nodes"],
        "is_coloured_clique": ["graph", "k", "nodes"], "other_nodes": ["graph", "nodes"],
        "coloured_copies": ["graph", "k"], "to_copies": ["graph", "k", "clique"],
        "from_copies": ["graph", "k", "nodes"], "domination_graph": ["family"], "to_domination": ["family", "chosen"],
        "from_domination": ["family", "nodes"], "cycle_graph": ["graph"], "to_cycles": ["graph", "nodes"],
        "from_cycles": ["graph", "nodes"],
    },
}
CLASSES = {
    errors: {name: [] for name in ("CherrystoneError", "BadGraph", "BadFamily", "BadArgument", "BadText", "TooLarge",
                                   "BadLine")},
    graphs: {"Graph": ["__init__", "__eq__", "neighbours", "degree", "adjacent", "induced", "without", "complement",
                       "many"]},
    hitting: {"Family": ["__init__", "__eq__"]},
    desk: {"Desk": ["do"]},
}


class Interface(unittest.TestCase):
    """What DOC.md lists stands under its name, with its arguments, in the file under which it is listed."""

    def test_functions(self):
        for module, functions in FUNCTIONS.items():
            for name, arguments in functions.items():
                function = getattr(module, name)
                self.assertEqual(function.__module__, module.__name__)
                self.assertEqual(list(inspect.signature(function).parameters), arguments, name)

    def test_classes_and_their_methods(self):
        for module, classes in CLASSES.items():
            for name, methods in classes.items():
                self.assertEqual(getattr(module, name).__module__, module.__name__)
                for method in methods:
                    self.assertIn(method, vars(getattr(module, name)))

    def test_arguments_of_the_classes(self):
        self.assertEqual(list(inspect.signature(hitting.Family).parameters), ["size", "sets"])
        self.assertEqual(list(inspect.signature(desk.Desk).parameters), [])
        self.assertEqual(list(inspect.signature(desk.Desk.do).parameters), ["self", "line"])
        graph = graphs.Graph
        self.assertEqual(list(inspect.signature(graph).parameters), ["nodes", "edges"])
        self.assertIsInstance(graph.many, property)
        for method, arguments in (("neighbours", ["v"]), ("degree", ["v"]), ("adjacent", ["u", "v"]),
                                  ("induced", ["nodes"]), ("without", ["nodes"]), ("complement", [])):
            self.assertEqual(list(inspect.signature(getattr(graph, method)).parameters), ["self"] + arguments)


if __name__ == "__main__":
    unittest.main()
