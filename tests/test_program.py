"""What DOC.md promises over the whole program: arguments stay, lists are new, tests take values of any kind, errors."""

import copy
import unittest

from cherrystone import (clusters, colourful, covers, cycles, desk, errors, graphs, hitting, matching, odd, places,
                         reductions, tables, ways, widths)
from cherrystone.graphs import Graph
from cherrystone.hitting import Family
from tests.samples import clique, wrong_values
from tests.test_interface import FUNCTIONS

# A cycle of three nodes and one of four that share the node 2, and a path that hangs to the second one.
GRAPH = Graph(8, [(0, 1), (0, 2), (1, 2), (2, 3), (2, 5), (3, 4), (4, 5), (5, 6), (6, 7)])
FAMILY = Family(4, [(0, 1), (0, 2, 3), (1, 3), (3,)])
COVER = [0, 2, 4, 5, 6]
DECOMPOSITION = widths.eliminate(GRAPH, [7, 6, 0, 1, 3, 2, 4, 5])
PLACES = [[0], [4], [7]]
COLOURS = [0, 1, 2, 0, 1, 2, 0, 1]


def calls():
    """For each function of the interface arguments that it takes: (function, arguments)."""
    cover, half = covers.halves(GRAPH)
    cycle_kernel, cover_kernel = cycles.cycle_kernel(GRAPH), covers.cover_kernel(GRAPH, 5)
    small = cover_kernel[0]
    edges, _ = matching.greatest_matching(GRAPH)
    torn = clusters.cluster_kernel(GRAPH, 0)[1]
    cheap = clusters.least_clusters(clusters.cluster_kernel(GRAPH, 4)[0][0])[1]
    width_kernel = widths.width_kernel(GRAPH, COVER, 2)[0]
    flat = widths.best_decomposition(width_kernel[0])
    trace, met = widths.width_kernel(GRAPH, COVER, 1)[1]
    ways_out, _ = places.strength(GRAPH, PLACES, 1)
    nodes = list(range(8))
    disjoint, separator = ways.disjoint_ways(GRAPH, [0, 1], [4, 6])
    return [
        (graphs.make_graph, (3, [(1, 0), (0, 1), (2, 1)])), (graphs.is_list, (GRAPH, [0, 2])),
        (graphs.is_path, (GRAPH, [1, 0])),
        (graphs.is_cycle, (GRAPH, [0, 1, 2])), (graphs.components, (GRAPH,)), (graphs.distances, (GRAPH, 0)),
        (graphs.shortest_cycle, (GRAPH,)), (graphs.two_colours, (GRAPH,)), (graphs.two_colours, (GRAPH.without([0]),)),
        (graphs.degeneracy, (GRAPH,)), (graphs.format_graph, (GRAPH,)), (graphs.parse_graph, ("3; 0-1",)),
        (ways.disjoint_ways, (GRAPH, [0, 1], [4, 6])), (ways.are_ways, (GRAPH, [0, 1], [4, 6], disjoint)),
        (ways.separates, (GRAPH, [0, 1], [4, 6], separator)), (ways.ways_between, (GRAPH, 0, 4)),
        (ways.farthest, (GRAPH, [0, 1], [4, 6])), (ways.connectivity, (GRAPH,)), (ways.connectivity, (clique(3),)),
        (matching.is_matching, (GRAPH, edges)), (matching.deficiency, (GRAPH, [2, 5])),
        (matching.greatest_matching, (GRAPH,)),
        (matching.parts, (GRAPH,)), (matching.augment, (GRAPH, [(0, 1)])), (matching.augment, (GRAPH, edges)),
        (covers.is_cover, (GRAPH, COVER)), (covers.are_halves, (GRAPH, cover, half)), (covers.halves, (GRAPH,)),
        (covers.is_crown, (GRAPH, [7], [6], [(6, 7)])), (covers.cover_kernel, (GRAPH, 5)),
        (covers.cover_kernel, (GRAPH, 1)),
        (covers.refuses_cover, (GRAPH, 1, half)), (covers.lift_cover, (GRAPH, cover_kernel, list(range(small.nodes)))),
        (covers.least_cover, (GRAPH,)), (covers.crown, (GRAPH,)),
        (hitting.hits, (FAMILY, [0, 3])), (hitting.is_sunflower, (FAMILY, (), [0, 3])),
        (hitting.sunflower, (FAMILY, 2)),
        (hitting.hitting_kernel, (FAMILY, 2)), (hitting.hitting_kernel, (FAMILY, 0)),
        (hitting.least_hitting_set, (FAMILY,)),
        (cycles.meets_cycles, (GRAPH, [2])), (cycles.are_disjoint_cycles, (GRAPH, [[0, 1, 2]])),
        (cycles.cycle_kernel, (GRAPH,)),
        (cycles.lift_meeting, (GRAPH, cycle_kernel, list(range(cycle_kernel[0].nodes)))),
        (cycles.least_meeting, (GRAPH,)),
        (cycles.cycles_or_nodes, (GRAPH, 1)), (cycles.cycles_or_nodes, (GRAPH, 2)), (cycles.compress, (GRAPH, [2, 4])),
        (clusters.is_clustering, (GRAPH, [nodes])), (clusters.are_conflicts, (GRAPH, [(0, 2, 3)])),
        (clusters.cost, (GRAPH, [nodes])),
        (clusters.pack_conflicts, (GRAPH,)), (clusters.classes, (GRAPH,)), (clusters.cluster_kernel, (GRAPH, 0)),
        (clusters.cluster_kernel, (GRAPH, 4)), (clusters.refuses_clusters, (GRAPH, 0, torn)),
        (clusters.lift_clusters, (GRAPH, 4, cheap)), (clusters.least_clusters, (GRAPH,)),
        (colourful.is_colouring, (8, 3, COLOURS)), (colourful.is_separating, (3, 2, [[0, 1, 0], [0, 0, 1]])),
        (colourful.is_colourful, (GRAPH, COLOURS, 3, [0, 1, 2])), (colourful.colourful_path, (GRAPH, COLOURS, 3)),
        (colourful.colourful_count, (GRAPH, COLOURS, 3)), (colourful.separating_family, (8, 3)),
        (colourful.path_or_paper, (GRAPH, 3)), (colourful.path_or_paper, (clique(2), 3)),
        (colourful.refuses_path, (clique(2), 3, [[0, 1]])), (colourful.longest_path, (GRAPH,)),
        (colourful.path_kernel, (GRAPH, COVER)), (colourful.lift_path, (GRAPH, COVER, [0])),
        (places.are_places, (GRAPH, PLACES)), (places.is_cutting, (GRAPH, PLACES, [2, 5])),
        (places.refuses_cut, (GRAPH, PLACES, 0, 1, ways_out)), (places.strength, (GRAPH, PLACES, 1)),
        (places.grow, (GRAPH, PLACES)),
        (places.cut, (GRAPH, PLACES)), (places.cut_or_paper, (GRAPH, PLACES, 0)),
        (places.cut_or_paper, (GRAPH, PLACES, 3)),
        (widths.is_decomposition, (GRAPH, DECOMPOSITION)), (widths.is_refuge, (GRAPH, 0, [((), tuple(nodes))])),
        (widths.refuses_width, (GRAPH, 1, trace, met)), (widths.width_of, (GRAPH, DECOMPOSITION)),
        (widths.eliminate, (GRAPH, nodes)), (widths.best_decomposition, (GRAPH,)), (widths.greatest_refuge, (GRAPH, 2)),
        (widths.width_kernel, (GRAPH, COVER, 2)), (widths.width_kernel, (GRAPH, COVER, 1)),
        (widths.lift_decomposition, (GRAPH, width_kernel, flat)),
        (tables.independent_counts, (GRAPH, DECOMPOSITION)), (tables.colouring_count, (GRAPH, DECOMPOSITION, 3)),
        (tables.least_domination, (GRAPH, DECOMPOSITION)),
        (odd.is_odd_set, (GRAPH, [0])), (odd.are_odd_cycles, (GRAPH, [[0, 1, 2]])), (odd.fewer_odd, (GRAPH, [0])),
        (odd.fewer_odd, (GRAPH, [0, 5])), (odd.refuses_odd, (GRAPH, [0], odd.fewer_odd(GRAPH, [0])[1])),
        (odd.least_odd_set, (GRAPH,)),
        (reductions.is_independent, (GRAPH, [1, 3, 7])), (reductions.is_clique, (GRAPH, [0, 1])),
        (reductions.is_dominating, (GRAPH, [2, 4, 6])), (reductions.is_coloured_clique, (GRAPH, 2, [0, 3])),
        (reductions.other_nodes, (GRAPH, [0, 2])), (reductions.coloured_copies, (GRAPH, 2)),
        (reductions.to_copies, (GRAPH, 2, [0, 1])), (reductions.from_copies, (GRAPH, 2, [0, 3])),
        (reductions.domination_graph, (FAMILY,)), (reductions.to_domination, (FAMILY, [0, 3])),
        (reductions.from_domination, (FAMILY, [0, 3])), (reductions.cycle_graph, (GRAPH,)),
        (reductions.to_cycles, (GRAPH, COVER)),
        (reductions.from_cycles, (GRAPH, COVER)),
        (GRAPH.neighbours, (2,)), (GRAPH.degree, (2,)), (GRAPH.adjacent, (0, 2)), (GRAPH.induced, ([0, 2],)),
        (GRAPH.without, ([0, 2],)),
        (GRAPH.complement, ()), (Graph, (3, [(0, 1), (1, 2)])), (Family, (3, [(0, 1)])),
    ]


def taken_apart(value):
    """The value without objects, with copies of all lists; tuples and lists are told apart."""
    if isinstance(value, (Graph, Family)):
        return taken_apart(sorted(vars(value).items()))
    if isinstance(value, (list, tuple)):
        return [str(type(value))] + [taken_apart(one) for one in value]
    return value


def spoil(value):
    """Puts something into each list of the value."""
    if isinstance(value, Graph):
        spoil(value.edges)
    elif isinstance(value, Family):
        spoil(value.sets)
    elif isinstance(value, (list, tuple)):
        for one in value:
            spoil(one)
        if isinstance(value, list):
            value.append("spoilt")


class LeftAsTheyWere(unittest.TestCase):
    def test_no_function_is_missing(self):
        called = {call for call, _ in calls()}
        for module, functions in FUNCTIONS.items():
            for name in functions:
                self.assertIn(getattr(module, name), called)

    def test_arguments_stay_and_lists_are_new(self):
        for call, given in calls():
            given = copy.deepcopy(given)
            before = taken_apart(given)
            told = call(*given)
            self.assertEqual(taken_apart(given), before, call)
            first = taken_apart(told)
            spoil(told)
            # What was told has no list in common with the arguments, nor with what is told next.
            self.assertEqual(taken_apart(given), before, call)
            self.assertEqual(taken_apart(call(*given)), first, call)
        self.assertEqual(GRAPH.edges, copy.deepcopy(GRAPH).edges)

    def test_lists_of_two_calls_are_different_ones(self):
        for call, given in calls():
            one, two = call(*given), call(*given)
            for part, other in ((one, two), *(zip(one, two) if isinstance(one, tuple) else ())):
                if isinstance(part, list):
                    self.assertIsNot(part, other, call)


# For each test function right arguments, and the places of those that it tests.
TESTED = {
    "is_list": [1], "is_path": [1], "is_cycle": [1], "are_ways": [3], "separates": [3], "is_matching": [1],
    "is_cover": [1],
    "are_halves": [1, 2], "refuses_cover": [2], "is_crown": [1, 2, 3], "hits": [1], "is_sunflower": [1, 2],
    "meets_cycles": [1],
    "are_disjoint_cycles": [1], "is_clustering": [1], "are_conflicts": [1], "refuses_clusters": [2],
    "is_colouring": [2],
    "is_separating": [2], "is_colourful": [3], "refuses_path": [2], "are_places": [1], "is_cutting": [2],
    "refuses_cut": [3, 4],
    "is_decomposition": [1], "is_refuge": [2], "refuses_width": [2, 3], "is_odd_set": [1], "are_odd_cycles": [1],
    "refuses_odd": [1, 2], "is_independent": [1], "is_clique": [1], "is_dominating": [1], "is_coloured_clique": [2],
}
PREFIXES = ("is_", "are_", "hits", "separates", "meets_", "refuses_")


class Strange:
    """A value that stands up to no comparison."""

    def __eq__(self, other):
        raise AssertionError("this is not to be compared")

    def __lt__(self, other):
        raise AssertionError("this is not to be compared")

    def __len__(self):
        raise AssertionError("this is not to be measured")

    def __bool__(self):
        raise AssertionError("this is not to be asked")

    __hash__ = None


def strange_values():
    plain = wrong_values() + [Strange(), 10 ** 30, -10 ** 30, "abc", [[]], [[[]]], [[None]], [[True]], [(None,)],
                              [({},)],
                              {None: None}, {True: True}, ({},), ([],), ((),), (None, None), ([], []), ([[]], []),
                              ((), []),
                              (0, 1, 2), ("join", 0, 1), ["join", 0, 1], [("join", 0)], [("drop", 0, None)],
                              (["0"], []),
                              [(["0"], [])], [(None, [])], Graph(0, []), Family(0, []), [Graph(0, [])], Exception,
                              NotImplemented,
                              slice(0), complex(1, 1), memoryview(b"a"), bytearray(b"a"), "\0", [float("inf")],
                              [10 ** 30]]
    for value in plain:
        yield value
        yield [value]
        yield [value, value]
        yield (value, value)
        yield [(value, value)]
        yield [(value, value, value)]
        yield [[value], [value]]
        yield {0: value}


class TestFunctions(unittest.TestCase):
    def rights(self):
        for call, given in calls():
            name = getattr(call, "__name__", "")
            if name.startswith(PREFIXES):
                yield call, name, given

    def test_all_of_them_are_here(self):
        self.assertEqual({name for _, name, _ in self.rights()}, set(TESTED))
        for call, name, given in self.rights():
            self.assertIs(call(*given), True, name)

    def test_values_of_any_kind(self):
        for call, name, given in self.rights():
            for at in TESTED[name]:
                for value in strange_values():
                    changed = given[:at] + (value,) + given[at + 1:]
                    told = call(*changed)
                    self.assertIs(type(told), bool, name)
                    if told:
                        # Some of the values are what the function tests, after all.
                        self.assertIs(type(value), type(given[at]), (name, value))
                        self.assertNotIn("True", repr(value))
                        self.assertNotIn(".0", repr(value))
                        self.assertNotIn("None", repr(value))

    def test_several_values_of_any_kind(self):
        for call, name, given in self.rights():
            if len(TESTED[name]) > 1:
                for value in strange_values():
                    changed = tuple(value if at in TESTED[name] else one for at, one in enumerate(given))
                    self.assertIs(call(*changed), False, (name, value))

    def test_true_and_numbers_that_are_equal_are_not_integers(self):
        def changed(value, swap):
            if isinstance(value, (list, tuple)):
                return type(value)([changed(one, swap) for one in value])
            return swap(value) if isinstance(value, int) else value

        for call, name, given in self.rights():
            for at in TESTED[name]:
                for swap in (float, lambda one: bool(one) if one in (0, 1) else one, str):
                    spoilt = changed(given[at], swap)
                    if repr(spoilt) != repr(given[at]):
                        self.assertIs(call(*given[:at], spoilt, *given[at + 1:]), False, (name, spoilt))

    def test_tuples_in_the_place_of_lists_and_lists_in_the_place_of_tuples(self):
        def swapped(value):
            """All values that differ from this one in one list or tuple."""
            if isinstance(value, (list, tuple)):
                yield tuple(value) if isinstance(value, list) else list(value)
                for k, one in enumerate(value):
                    for other in swapped(one):
                        yield type(value)([*value[:k], other, *value[k + 1:]])

        for call, name, given in self.rights():
            for at in TESTED[name]:
                for spoilt in swapped(given[at]):
                    self.assertIs(call(*given[:at], spoilt, *given[at + 1:]), False, (name, spoilt))


class Errors(unittest.TestCase):
    """Each kind of error is raised where the document says so, and is of no other kind."""

    def raised(self, name, call, *given):
        with self.assertRaises(errors.CherrystoneError) as caught:
            call(*given)
        self.assertIs(type(caught.exception), getattr(errors, name), call)
        self.assertIsInstance(caught.exception, ValueError)

    def test_bad_graph(self):
        for nodes, edges in ((41, []), (-1, []), (True, []), (None, []), (2, None), (2, [(1, 0)]),
                             (2, [(0, 1), (0, 1)]),
                             (2, [(0, 2)]), (2, [[0, 1]]), (2, ((0, 1),))):
            self.raised("BadGraph", Graph, nodes, edges)
        for nodes, pairs in ((41, []), (2, None), (2, [(0, 0)]), (2, [(0, 2)]), (2, [[0, 1]])):
            self.raised("BadGraph", graphs.make_graph, nodes, pairs)

    def test_bad_family(self):
        for size, sets in ((41, []), (True, []), (2, None), (2, [(1, 0)]), (2, [(0,), (0,)]), (2, [[0]]), (2, [(2,)]),
                           (40, [tuple(range(9))]), (2, [(1,), (0,)])):
            self.raised("BadFamily", Family, size, sets)

    def test_bad_text(self):
        for text in ("", "1", "41;", "2; 1-0", None, 5, b"1;"):
            self.raised("BadText", graphs.parse_graph, text)

    def test_bad_argument(self):
        for call, *given in (
                (GRAPH.neighbours, 8), (GRAPH.degree, True), (GRAPH.adjacent, 0, 8), (GRAPH.induced, [1, 0]),
                (GRAPH.without, None),
                (graphs.distances, GRAPH, -1), (ways.disjoint_ways, GRAPH, [8], []), (ways.ways_between, GRAPH, 0, 1),
                (ways.farthest, GRAPH, [], (0,)), (ways.connectivity, Graph(1, [])),
                (matching.augment, GRAPH, [(0, 3)]),
                (covers.cover_kernel, GRAPH, 41), (covers.refuses_cover, GRAPH, -1, []),
                (covers.lift_cover, GRAPH, covers.cover_kernel(GRAPH, 5), [40]), (hitting.sunflower, FAMILY, 1),
                (hitting.hitting_kernel, FAMILY, True), (cycles.cycles_or_nodes, GRAPH, 0),
                (cycles.compress, GRAPH, []),
                (cycles.lift_meeting, GRAPH, cycles.cycle_kernel(GRAPH), [40]), (clusters.cost, GRAPH, []),
                (clusters.cluster_kernel, GRAPH, 21), (clusters.refuses_clusters, GRAPH, None, []),
                (clusters.lift_clusters, GRAPH, 0, []), (colourful.is_colouring, 41, 1, []),
                (colourful.is_separating, 5, 8, []),
                (colourful.colourful_path, GRAPH, [0], 1), (colourful.colourful_count, GRAPH, COLOURS, 0),
                (colourful.separating_family, 41, 1), (colourful.path_or_paper, GRAPH, 8),
                (colourful.refuses_path, GRAPH, 0, []),
                (colourful.path_kernel, GRAPH, []), (colourful.lift_path, GRAPH, COVER, []),
                (places.is_cutting, GRAPH, [], []),
                (places.refuses_cut, GRAPH, PLACES, 41, 0, []), (places.strength, GRAPH, PLACES, 3),
                (places.grow, GRAPH, [[0]]),
                (places.cut, GRAPH, None), (places.cut_or_paper, GRAPH, PLACES, -1), (widths.is_refuge, GRAPH, 10, []),
                (widths.refuses_width, GRAPH, -1, [], []), (widths.width_of, GRAPH, ([], [])),
                (widths.eliminate, GRAPH, [0]),
                (widths.greatest_refuge, GRAPH, 10), (widths.width_kernel, GRAPH, COVER, 10),
                (widths.width_kernel, GRAPH, [], 1),
                (widths.lift_decomposition, GRAPH, widths.width_kernel(GRAPH, COVER, 2)[0], None),
                (tables.independent_counts, GRAPH, None), (tables.colouring_count, GRAPH, DECOMPOSITION, 5),
                (tables.least_domination, GRAPH, ([[]], [])), (odd.fewer_odd, GRAPH, []),
                (reductions.other_nodes, GRAPH, [8]),
                (reductions.coloured_copies, GRAPH, 9), (reductions.to_copies, GRAPH, 2, [0]),
                (reductions.from_copies, GRAPH, 2, [0]), (reductions.is_coloured_clique, GRAPH, 0, []),
                (reductions.domination_graph, Family(0, [])), (reductions.to_domination, FAMILY, []),
                (reductions.from_domination, FAMILY, []), (reductions.to_cycles, GRAPH, []),
                (reductions.from_cycles, GRAPH, [])):
            self.raised("BadArgument", call, *given)

    def test_too_large(self):
        wide = Graph(40, [])
        whole = ([list(range(40))], [])
        for call, *given in (
                (covers.least_cover, wide), (hitting.least_hitting_set, Family(15, [])), (cycles.least_meeting, wide),
                (clusters.least_clusters, wide), (colourful.is_separating, 40, 3, None),
                (colourful.separating_family, 40, 3),
                (colourful.path_or_paper, wide, 3), (colourful.refuses_path, wide, 3, None),
                (colourful.longest_path, wide),
                (places.cut, wide, [[0], [1]]), (places.cut_or_paper, wide, [[0], [1]], 0),
                (widths.best_decomposition, wide),
                (widths.greatest_refuge, wide, 0), (tables.independent_counts, wide, whole),
                (tables.colouring_count, wide, whole, 0),
                (tables.least_domination, wide, whole), (odd.least_odd_set, wide),
                (reductions.coloured_copies, wide, 2),
                (reductions.to_copies, clique(40), 2, [0, 1]), (reductions.from_copies, wide, 2, None),
                (reductions.is_coloured_clique, wide, 2, None), (reductions.domination_graph, Family(40, [(0,)])),
                (reductions.to_domination, Family(40, [(0,)]), [0]),
                (reductions.from_domination, Family(40, [(0,)]), None),
                (reductions.cycle_graph, clique(40)), (reductions.to_cycles, clique(40), list(range(40))),
                (reductions.from_cycles, clique(40), None)):
            self.raised("TooLarge", call, *given)

    def test_bad_argument_ahead_of_too_large(self):
        wide = Graph(40, [])
        for call, *given in (
                (colourful.separating_family, 40, 8), (colourful.path_or_paper, wide, 0),
                (colourful.refuses_path, wide, 8, None),
                (places.cut, wide, [[0]]), (places.cut_or_paper, wide, [[0], [1]], 41),
                (widths.greatest_refuge, wide, 10),
                (tables.independent_counts, wide, ([list(range(39))], [])),
                (tables.colouring_count, wide, ([list(range(40))], []), 5),
                (reductions.coloured_copies, wide, 9), (reductions.to_copies, wide, 2, [0, 1]),
                (reductions.from_copies, wide, 9, None),
                (reductions.to_domination, Family(40, [(0,)]), []), (reductions.to_cycles, clique(40), []),
                (reductions.domination_graph, Family(40, [()]))):
            self.raised("BadArgument", call, *given)

    def test_bad_line(self):
        for line in ("show", "", None, "graph 1"):
            self.raised("BadLine", desk.Desk().do, line)


if __name__ == "__main__":
    unittest.main()
