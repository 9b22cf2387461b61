import random
import unittest
from itertools import product

from cherrystone.errors import BadArgument, TooLarge
from cherrystone.graphs import Graph
from cherrystone.odd import are_odd_cycles, fewer_odd, is_odd_set, least_odd_set, refuses_odd
from cherrystone.ways import disjoint_ways
from tests.samples import all_graphs, apart, clique, components_by_eye, cycle_by_eye, drawn_graphs, grid, large_graphs
from tests.samples import near_sets, orders, patched, path_by_eye, petersen, ring, subsets, two_sides, wrong_values

# Two cycles of three nodes that share the node 2, a cycle of five nodes, and the node 10 alone.
BOW = Graph(11, [(0, 1), (0, 2), (1, 2), (2, 3), (2, 4), (3, 4), (5, 6), (5, 9), (6, 7), (7, 8), (8, 9)])


def colours_by_eye(graph, barred=()):
    """The colours of the nodes that are not barred, the least one of each component 0; None if there are none."""
    near, colours = near_sets(graph), {}
    for part in components_by_eye(graph, barred):
        queue = [min(part)]
        colours[queue[0]] = 0
        while queue:
            v = queue.pop()
            for u in near[v] - set(barred):
                if u not in colours:
                    colours[u] = 1 - colours[v]
                    queue.append(u)
    if any(colours[u] == colours[v] for u, v in graph.edges if u in colours and v in colours):
        return None
    return colours


def odd_set_by_eye(graph, nodes):
    return colours_by_eye(graph, nodes) is not None


def least_size(graph):
    return next(len(nodes) for nodes in subsets(range(graph.nodes)) if odd_set_by_eye(graph, nodes))


def splits_by_eye(graph, nodes):
    """All right splits of the odd set in which not all nodes are given up, ascending."""
    found = []
    for split in sorted(product("-01", repeat=len(nodes))):
        digit = dict(zip(nodes, split))
        pairs = [pair for pair in graph.edges if set(pair) <= set(nodes)]
        if set(split) - {"-"} and not any(digit[u] == digit[v] != "-" for u, v in pairs):
            found.append(list(split))
    return found


def ends_by_eye(graph, nodes, split):
    near, colours = near_sets(graph), colours_by_eye(graph, nodes)
    held = [(v, int(letter)) for v, letter in zip(nodes, split) if letter != "-"]
    first = {u for v, digit in held for u in near[v] if u in colours and colours[u] != digit}
    second = {u for v, digit in held for u in near[v] if u in colours and colours[u] == digit}
    return first, second


def are_ways_by_eye(graph, nodes, split, ways):
    first, second = ends_by_eye(graph, nodes, split)
    met = [v for way in ways for v in way]
    return len(set(met)) == len(met) and not set(met) & set(nodes) and all(
        path_by_eye(graph, way) and set(way) & first == {way[0]} and set(way) & second == {way[-1]} for way in ways)


class OddSets(unittest.TestCase):
    def test_by_example(self):
        for nodes, right in (([2, 5], True), ([2, 9], True), ([2], False), ([5], False), ([], False), ([0, 3, 7], True),
                             ([0, 1, 6], False), (list(range(11)), True), ([2, 10], False)):
            self.assertIs(is_odd_set(BOW, nodes), right, nodes)
        for graph in (Graph(0, []), Graph(40, []), two_sides(20, 20), ring(40), grid(5, 8)):
            self.assertIs(is_odd_set(graph, []), True)

    def test_each_node_list(self):
        for graph in list(all_graphs(4)) + list(drawn_graphs(7, 2)):
            for nodes in subsets(range(graph.nodes)):
                self.assertIs(is_odd_set(graph, nodes), odd_set_by_eye(graph, nodes))
                if len(nodes) > 1:
                    self.assertIs(is_odd_set(graph, nodes[::-1]), False)

    def test_values_of_all_kinds(self):
        for value in wrong_values() + [[2, 5, 11], [5, 2], [2, 2, 5], (2, 5), {2, 5}, [2, 5.0], [2, "5"], [2, None],
                                       [[2, 5]]]:
            self.assertIs(is_odd_set(BOW, value), False, value)
        for value in [(), {}, None, 0, "", [0], [None], False]:
            self.assertIs(is_odd_set(Graph(0, []), value), False, value)


class OddCycles(unittest.TestCase):
    def test_by_example(self):
        for cycles, right in (([], True), ([[0, 1, 2]], True), ([[2, 0, 1], [5, 9, 8, 7, 6]], True),
                              ([[2, 3, 4]], True),
                              ([[0, 1, 2], [2, 3, 4]], False), ([[0, 1, 2], [0, 1, 2]], False), ([[0, 1]], False),
                              ([[5, 6, 7, 8]], False), ([[10]], False), ([[]], False), ([[0, 1, 2], []], False)):
            self.assertIs(are_odd_cycles(BOW, cycles), right, cycles)
        self.assertIs(are_odd_cycles(ring(8), [list(range(8))]), False)
        self.assertIs(are_odd_cycles(ring(7), [list(range(7))]), True)
        self.assertIs(are_odd_cycles(apart(ring(3), ring(4)), [[0, 1, 2], [3, 4, 5, 6]]), False)

    def test_each_list_of_nodes(self):
        for graph in list(all_graphs(4)) + list(drawn_graphs(5, 1)):
            for walk in orders(range(graph.nodes)):
                self.assertIs(are_odd_cycles(graph, [walk]), cycle_by_eye(graph, walk) and len(walk) % 2 == 1)

    def test_values_of_all_kinds(self):
        for value in wrong_values():
            self.assertIs(are_odd_cycles(BOW, value), False, value)
            self.assertIs(are_odd_cycles(BOW, [[5, 6, 7, 8, 9], value]), repr(value) == "[0, 1, 2]", value)
        for value in ([(0, 1, 2)], ([0, 1, 2],), [{0, 1, 2}], [[0, 1, 2.0]], [[False, 1, 2]], [[0, True, 2]],
                      [[0, 1, 11]],
                      [["0", "1", "2"]], [0, 1, 2], {0: [0, 1, 2]}, [[[0, 1, 2]]], iter([[0, 1, 2]])):
            self.assertIs(are_odd_cycles(BOW, value), False, value)


class FewerOdd(unittest.TestCase):
    def right(self, graph, nodes):
        """Checks the answer; tells the odd set with fewer nodes, or None."""
        answer = fewer_odd(graph, nodes)
        self.assertIs(type(answer), tuple)
        word, told = answer
        if word == "fewer":
            self.assertEqual(told, sorted(set(told)))
            self.assertLess(len(told), len(nodes))
            self.assertTrue(odd_set_by_eye(graph, told))
            return told
        self.assertEqual(word, "paper")
        self.assertEqual([split for split, _ in told], splits_by_eye(graph, nodes))
        for row in told:
            self.assertIs(type(row), tuple)
            split, ways = row
            self.assertEqual(len(ways), len(nodes) - split.count("-"))
            self.assertTrue(are_ways_by_eye(graph, nodes, split, ways))
        self.assertIs(refuses_odd(graph, nodes, told), True)
        return None

    def test_each_odd_set_of_small_graphs(self):
        for graph in list(all_graphs(4)) + list(drawn_graphs(6, 2)) + [BOW.without([0]), clique(5), clique(6)]:
            least = least_size(graph)
            for nodes in subsets(range(graph.nodes)):
                if len(nodes) <= 5 and odd_set_by_eye(graph, nodes):
                    told = self.right(graph, nodes)
                    self.assertEqual(told is None, len(nodes) == least)

    def test_drawn_odd_sets(self):
        source = random.Random(1)
        words = []
        for size in range(6):
            for thin in (0.15, 0.3, 0.5, 0.8):
                for _ in range(4):
                    graph, nodes = patched(source, 10, size, thin)
                    least = least_size(graph)
                    told = self.right(graph, nodes)
                    words.append(told is None)
                    self.assertEqual(told is None, size == least)
                    while told is not None:
                        nodes, told = told, self.right(graph, told)
                    self.assertEqual(len(nodes), least)
        self.assertGreater(words.count(True), 10)
        self.assertGreater(words.count(False), 10)

    def test_40_nodes(self):
        source = random.Random(2)
        for size in range(6):
            for thin in (0.03, 0.06, 0.1, 0.3, 0.8):
                graph, nodes = patched(source, 40, size, thin)
                told = nodes
                while told is not None:
                    told = self.right(graph, told)
        for graph in (ring(39), clique(7), apart(*[ring(5)] * 5), two_sides(20, 20)):
            for nodes in ([0, 1, 2, 3, 4], [0, 5, 10, 15, 20], [0], []):
                if odd_set_by_eye(graph, nodes):
                    self.right(graph, nodes)

    def test_by_example(self):
        for graph in (Graph(0, []), Graph(40, []), two_sides(3, 3), ring(6)):
            self.assertEqual(fewer_odd(graph, []), ("paper", []))
        self.assertEqual(fewer_odd(ring(6), [3]), ("fewer", []))
        # Without the node 0 the others have the colours 0, 1, 0, 1: one of its neighbours has each colour.
        self.assertEqual(fewer_odd(ring(5), [0]), ("paper", [(["0"], [[4, 3, 2, 1]]), (["1"], [[1, 2, 3, 4]])]))
        word, rows = fewer_odd(apart(ring(3), ring(3)), [0, 3])
        self.assertEqual(word, "paper")
        self.assertEqual(["".join(split) for split, _ in rows], ["-0", "-1", "0-", "00", "01", "1-", "10", "11"])
        # The nodes of the odd set are adjacent: they have no digit in common.
        word, rows = fewer_odd(clique(4), [1, 2])
        self.assertEqual(["".join(split) for split, _ in rows], ["-0", "-1", "0-", "01", "1-", "10"])

    def test_what_is_no_small_odd_set(self):
        for value in wrong_values() + [[2], [5], [5, 2], [2, 5, 5], [2, 11], (2, 5), {2, 5}, [2, 5.0], [2, "5"],
                                       [2, True],
                                       [0, 2, 3, 5, 6, 7], list(range(11))]:
            with self.assertRaises(BadArgument, msg=value):
                fewer_odd(BOW, value)
        with self.assertRaises(BadArgument):
            fewer_odd(Graph(6, []), list(range(6)))
        self.assertEqual(fewer_odd(Graph(6, []), list(range(5)))[0], "fewer")
        self.assertIsNone(self.right(clique(7), [0, 1, 2, 3, 4]))


class Refusals(unittest.TestCase):
    def test_spoilt_rows(self):
        graph, nodes = apart(ring(5), ring(3)), [0, 5]
        rows = fewer_odd(graph, nodes)[1]
        self.assertIs(refuses_odd(graph, nodes, rows), True)
        for at, (split, ways) in enumerate(rows):
            for row in ((split, ways[:-1]), (split, ways + ways[:1]), (split, [way[::-1] for way in ways]),
                        (split[::-1], ways),
                        (split, ways, ways), (split,), [split, ways], (tuple(split), ways), ("".join(split), ways),
                        (split, tuple(ways)), (split, [tuple(way) for way in ways]), (split + ["-"], ways),
                        (ways, split),
                        (split, [way[1:] for way in ways]), (split, [way[:-1] for way in ways]),
                        (split, [[0] + way for way in ways]),
                        (split, [[]] * len(ways)),
                        (split, [[float(v) for v in way] for way in ways]),
                        (split, [[str(v) for v in way] for way in ways]),
                        (split, None), (None, ways), (split, [None] * len(ways)), ([None] * 2, ways), None, [], (), 0,
                        "01",
                        (split, {0: ways}), (split, [way + way[-2:-1] for way in ways]), ([0, 1], ways),
                        (split, [ways])):
                if repr(row) == repr((split, ways)):
                    continue
                right = isinstance(row, tuple) and row and row[0] == split and row[1:] and isinstance(row[1],
                                                                                                      list) and all(
                    isinstance(way, list) and all(type(v) is int for v in way) for way in row[1])
                if right and len(row[1]) == len(ways) and are_ways_by_eye(graph, nodes, split, row[1]):
                    continue
                self.assertIs(refuses_odd(graph, nodes, rows[:at] + [row] + rows[at + 1:]), False, row)
            self.assertIs(refuses_odd(graph, nodes, rows[:at] + rows[at + 1:]), False)
            self.assertIs(refuses_odd(graph, nodes, rows + [rows[at]]), False)
            self.assertIs(refuses_odd(graph, nodes, rows[:at] + rows[at:at + 1] * 2 + rows[at + 1:]), False)
        self.assertIs(refuses_odd(graph, nodes, rows[::-1]), False)
        self.assertIs(refuses_odd(graph, nodes, tuple(rows)), False)
        self.assertIs(refuses_odd(graph, nodes, [(["-", "-"], [])] + rows), False)
        self.assertIs(refuses_odd(graph, [1, 5], rows), False)
        self.assertIs(refuses_odd(graph, [0], rows), False)

    def test_other_ways(self):
        # Any disjoint ways will do, also longer ones.
        graph = Graph(6, [(0, 1), (0, 4), (1, 2), (1, 5), (2, 3), (2, 5), (3, 4)]).without([5])
        self.assertIs(refuses_odd(graph, [0], [(["0"], [[4, 3, 2, 1]]), (["1"], [[1, 2, 3, 4]])]), True)
        self.assertIs(refuses_odd(graph, [0], [(["0"], [[1, 2, 3, 4]]), (["1"], [[4, 3, 2, 1]])]), False)
        self.assertIs(refuses_odd(graph, [0], [(["1"], [[1, 2, 3, 4]]), (["0"], [[4, 3, 2, 1]])]), False)
        wide = two_sides(2, 4).edges
        graph = Graph(7, sorted(wide + [(0, 6), (5, 6)]))
        for way in ([2, 1, 5], [2, 1, 3], [5, 1], [5, 0, 2], [5], [0], [2, 0], [5, 1, 2]):
            self.assertIs(refuses_odd(graph, [6], [(["0"], [way]), (["1"], [way[::-1]])]), False)
        self.assertIs(refuses_odd(graph, [6], fewer_odd(graph, [6])[1]), True)
        for way in ([5, 0], [5, 1, 2, 0], [5, 1, 4, 0]):
            self.assertIs(refuses_odd(graph, [6], [(["0"], [way]), (["1"], [way[::-1]])]), True)

    def best_rows(self, graph, nodes):
        """For each split as many disjoint ways as there are, so far as they are wanted."""
        others = [v for v in range(graph.nodes) if v not in nodes]
        rows = []
        for split in splits_by_eye(graph, nodes):
            ends = [[others.index(v) for v in sorted(end)] for end in ends_by_eye(graph, nodes, split)]
            ways, _ = disjoint_ways(graph.without(nodes), *ends)
            rows.append((split, [[others[v] for v in way] for way in ways[:len(nodes) - split.count("-")]]))
        return rows

    def test_exactly_where_no_odd_set_has_fewer_nodes(self):
        for graph in list(all_graphs(4)) + list(drawn_graphs(6, 1)):
            least = least_size(graph)
            for nodes in subsets(range(graph.nodes)):
                if not odd_set_by_eye(graph, nodes):
                    self.assertIs(refuses_odd(graph, nodes, []), False)
                    self.assertIs(refuses_odd(graph, nodes, [(["0"] * len(nodes), [])]), False)
                elif len(nodes) <= 5:
                    rows = self.best_rows(graph, nodes)
                    self.assertIs(refuses_odd(graph, nodes, rows), len(nodes) == least)
                    # A way told twice is no second one.
                    rows = [(split, (ways * 5)[:len(nodes) - split.count("-")]) for split, ways in rows]
                    self.assertIs(refuses_odd(graph, nodes, rows), len(nodes) == least)

    def test_values_of_all_kinds(self):
        nodes = [2, 5]
        rows = fewer_odd(BOW, nodes)[1]
        self.assertIs(refuses_odd(BOW, nodes, rows), True)
        for value in wrong_values() + [[2], [5], [5, 2], (2, 5), {2, 5}, [2, 5.0], [2, "5"], list(range(6))]:
            self.assertIs(refuses_odd(BOW, value, rows), False, value)
            self.assertIs(refuses_odd(BOW, value, []), False, value)
            self.assertIs(refuses_odd(BOW, value, value), False, value)
            self.assertIs(refuses_odd(BOW, nodes, value), False, value)
            self.assertIs(refuses_odd(BOW, nodes, rows[:-1] + [value]), False, value)
            self.assertIs(refuses_odd(BOW, nodes, rows + [value]), False, value)
            self.assertIs(refuses_odd(BOW, nodes, rows[:-1] + [(rows[-1][0], value)]), False, value)
            self.assertIs(refuses_odd(BOW, nodes, rows[:-1] + [(rows[-1][0], [value, value])]), False, value)
            self.assertIs(refuses_odd(BOW, nodes, rows[:-1] + [(value, rows[-1][1])]), False, value)
        for value in wrong_values():
            self.assertIs(refuses_odd(Graph(0, []), [], value), False, value)
        self.assertIs(refuses_odd(Graph(0, []), [], []), True)
        # Six nodes are too many, even if there is no odd set with fewer.
        self.assertIs(refuses_odd(clique(8), list(range(6)), []), False)
        self.assertIs(refuses_odd(apart(*[clique(3)] * 6), list(range(0, 18, 3)), []), False)


class LeastOddSets(unittest.TestCase):
    def right(self, graph):
        told = least_odd_set(graph)
        self.assertEqual(told, sorted(set(told)))
        self.assertTrue(odd_set_by_eye(graph, told))
        return len(told)

    def test_against_all_node_lists(self):
        for graph in list(all_graphs(5)) + list(drawn_graphs(8, 4)) + [BOW, petersen(), grid(3, 4)]:
            self.assertEqual(self.right(graph), least_size(graph))

    def test_13_nodes(self):
        for graph, size in ((Graph(13, []), 0), (clique(13), 11), (ring(13), 1), (two_sides(6, 7), 0), (grid(1, 13), 0),
                            (apart(*[clique(3)] * 4), 4), (apart(clique(6), clique(7)), 9), (petersen(), 3),
                            (Graph(0, []), 0)):
            self.assertEqual(self.right(graph), size)
        for graph in drawn_graphs(13, 1):
            self.assertEqual(self.right(graph), least_size(graph))

    def test_more_than_13_nodes(self):
        for graph in (Graph(14, []), clique(14), ring(14)) + tuple(large_graphs()):
            with self.assertRaises(TooLarge):
                least_odd_set(graph)


class LeftAsTheyWere(unittest.TestCase):
    def test_arguments(self):
        graph, nodes, cycles = Graph(11, BOW.edges), [2, 5], [[0, 1, 2], [5, 6, 7, 8, 9]]
        rows = fewer_odd(graph, nodes)[1]
        before = [(list(split), [list(way) for way in ways]) for split, ways in rows]
        is_odd_set(graph, nodes)
        are_odd_cycles(graph, cycles)
        refuses_odd(graph, nodes, rows)
        fewer_odd(graph, [2, 5, 7])
        least_odd_set(graph)
        self.assertEqual((nodes, cycles, rows), ([2, 5], [[0, 1, 2], [5, 6, 7, 8, 9]], before))
        self.assertEqual(graph, BOW)
        self.assertEqual([graph.neighbours(v) for v in range(11)], [BOW.neighbours(v) for v in range(11)])

    def test_lists_are_new(self):
        for call in (lambda: [least_odd_set(BOW)], lambda: [fewer_odd(BOW, [2, 5, 7])[1]],
                     lambda: [fewer_odd(BOW, [2, 5])[1]],
                     lambda: [one for row in fewer_odd(BOW, [2, 5])[1] for one in row]):
            before = call()
            for told in call():
                told.append(None)
            self.assertEqual(call(), before)


if __name__ == "__main__":
    unittest.main()
