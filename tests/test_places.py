import random
import unittest
from itertools import combinations, permutations

from cherrystone.errors import BadArgument, TooLarge
from cherrystone.graphs import Graph
from cherrystone.places import are_places, cut, cut_or_paper, grow, is_cutting, refuses_cut, strength
from tests.samples import all_graphs, clique, drawn_graphs, found_from, grid, large_graphs, near_sets, not_numbers
from tests.samples import path_by_eye, ring, subsets, two_sides, wrong_values

# Three rows of four nodes: the corners of the upper row and the lower row's first one are places.
ROWS = grid(3, 4)
CORNERS = [[0], [3], [8]]


def free_of(graph, places):
    met = {v for place in places for v in place}
    return [v for v in range(graph.nodes) if v not in met]


def are_places_by_eye(graph, places):
    if len(places) < 2 or not all(places):
        return False
    for one, two in combinations(places, 2):
        pairs = [(u, v) for u in one for v in two]
        if any(u == v or tuple(sorted((u, v))) in graph.edges for u, v in pairs):
            return False
    return True


def cuts(graph, places, nodes):
    """Whether no path without the nodes, which are free, joins two places."""
    return not any(found_from(graph, one, nodes) & set(two) for one, two in combinations(places, 2))


def least_cuts(graph, places):
    """All cutting sets with the least number of nodes."""
    found = []
    for nodes in subsets(free_of(graph, places)):
        if found and len(nodes) > len(found[0]):
            break
        if cuts(graph, places, nodes):
            found.append(nodes)
    return found


def borders_by_eye(graph, places, index):
    near, free = near_sets(graph), free_of(graph, places)
    far = [v for at, place in enumerate(places) if at != index for v in place]
    return [v for v in free if near[v] & set(places[index])], [v for v in free if near[v] & set(far)]


def separators(graph, places, index):
    """All least separators of the border and the far border in the induced graph of the free nodes."""
    border, far = borders_by_eye(graph, places, index)
    free = free_of(graph, places)
    barred = [v for v in range(graph.nodes) if v not in free]
    found = []
    for nodes in subsets(free):
        if found and len(nodes) > len(found[0]):
            break
        if not found_from(graph, border, barred + nodes) & set(far):
            found.append(nodes)
    return found


def farthest_by_eye(graph, places, index):
    border, _ = borders_by_eye(graph, places, index)
    free = free_of(graph, places)
    barred = [v for v in range(graph.nodes) if v not in free]
    return max(separators(graph, places, index), key=lambda nodes: len(found_from(graph, border, barred + nodes)))


def are_ways_by_eye(graph, places, index, ways):
    border, far = borders_by_eye(graph, places, index)
    free = set(free_of(graph, places))
    met = [v for way in ways for v in way]
    return len(set(met)) == len(met) and set(met) <= free and all(
        path_by_eye(graph, way) and set(way) & set(border) == {way[0]} and set(way) & set(far) == {way[-1]}
        for way in ways)


def drawn_places(graph, source, many):
    """So many places of the graph, or None if they are not found soon."""
    for _ in range(60):
        nodes = source.sample(range(graph.nodes), graph.nodes)
        sizes = [source.choice((1, 1, 1, 2, 3)) for _ in range(many)]
        places = [sorted(nodes[sum(sizes[:k]):sum(sizes[:k + 1])]) for k in range(many)]
        if are_places_by_eye(graph, places):
            return places
    return None


def drawn_cases(many, each, seed):
    """Graphs with places."""
    source = random.Random(seed)
    for graph in drawn_graphs(many, each):
        for size in (2, 2, 3, 4):
            places = drawn_places(graph, source, size)
            if places is not None:
                yield graph, places


class Places(unittest.TestCase):
    def test_each_list_of_small_graphs(self):
        for graph in list(all_graphs(3)) + list(drawn_graphs(4, 1)):
            lists = list(subsets(range(graph.nodes)))
            for size in range(4):
                for places in permutations(lists, min(size, len(lists))):
                    self.assertIs(are_places(graph, list(places)), are_places_by_eye(graph, places), places)

    def test_by_example(self):
        for places, right in ((CORNERS, True), (CORNERS[::-1], True), ([[0, 1], [3], [8]], True),
                              ([[0, 1], [2]], False),
                              ([[0, 10], [3]], True), ([[0], [0]], False), ([[0, 2], [5, 7]], True), ([[0]], False),
                              ([[0], []], False), ([], False), ([[0], [3], [4]], False), ([[1, 0], [3]], False),
                              ([[0], [12]], False), ([[0], [3, 3]], False), ([[], []], False),
                              ([[0, 5], [5, 10]], False)):
            self.assertIs(are_places(ROWS, places), right, places)
        self.assertIs(are_places(Graph(40, []), [[v] for v in range(40)]), True)
        self.assertIs(are_places(Graph(0, []), []), False)

    def test_values_of_all_kinds(self):
        for value in wrong_values():
            self.assertIs(are_places(ROWS, value), False, value)
            self.assertIs(are_places(ROWS, [value]), False, value)
            self.assertIs(are_places(ROWS, [[3], value]), False, value)
            self.assertIs(are_places(ROWS, [value, [3], [8]]), False, value)
        for value in ([(0,), (3,)], ([0], [3]), [{0}, {3}], {0: [0], 1: [3]}, [[False], [3]], [[0.0], [3]],
                      [["0"], ["3"]],
                      [0, 3], [[[0]], [[3]]], iter([[0], [3]]), "03"):
            self.assertIs(are_places(ROWS, value), False, value)


class CuttingSets(unittest.TestCase):
    def test_each_node_list(self):
        for graph, places in list(drawn_cases(6, 2, 1)) + [(ROWS.without([9, 10, 11]), CORNERS)]:
            for nodes in subsets(range(graph.nodes)):
                right = set(nodes) <= set(free_of(graph, places)) and cuts(graph, places, nodes)
                self.assertIs(is_cutting(graph, places, nodes), right)
                if len(nodes) > 1:
                    self.assertIs(is_cutting(graph, places, nodes[::-1]), False)

    def test_by_example(self):
        for nodes, right in (([1, 4, 7, 2], False), ([1, 2, 4], False), ([1, 2, 4, 7], True), ([1, 4, 6, 9], True),
                             ([1, 2, 4, 5, 6, 7, 9, 10, 11], True), ([], False), ([0, 3], False), ([1, 4, 2, 7], False),
                             ([1, 4, 9], True), ([4, 9], False), ([2, 4, 7, 9], True)):
            self.assertIs(is_cutting(ROWS, CORNERS, nodes), right, nodes)
        self.assertIs(is_cutting(Graph(5, []), [[0], [4]], []), True)
        self.assertIs(is_cutting(Graph(5, []), [[0], [4]], [1, 2]), True)
        self.assertIs(is_cutting(Graph(5, []), [[0], [4]], [0]), False)

    def test_values_of_all_kinds(self):
        right = [1, 2, 4, 7]
        self.assertIs(is_cutting(ROWS, CORNERS, right), True)
        for value in wrong_values() + [tuple(right), set(right), [1, 2, 4, 7.0], [True, 2, 4, 7], [1, 2, 4, "7"],
                                       [right]]:
            self.assertIs(is_cutting(ROWS, CORNERS, value), False, value)

    def test_what_are_no_places(self):
        for value in wrong_values() + [[], [[0]], [[0], [1]], [[0], []], [[0], [0]], ([0], [3]), [(0,), (3,)],
                                       [[0], [12]]]:
            for nodes in ([], [1, 2, 4, 7], None):
                with self.assertRaises(BadArgument, msg=value):
                    is_cutting(ROWS, value, nodes)


class Strengths(unittest.TestCase):
    def right(self, graph, places, index):
        """Checks the ways, and that the separator has as many nodes; returns both."""
        told = strength(graph, places, index)
        self.assertIs(type(told), tuple)
        ways, separator = told
        self.assertTrue(are_ways_by_eye(graph, places, index, ways))
        self.assertEqual(len(ways), len(separator))
        self.assertEqual(separator, sorted(set(separator)))
        border, far = borders_by_eye(graph, places, index)
        barred = [v for place in places for v in place] + separator
        self.assertFalse(found_from(graph, border, barred) & set(far))
        self.assertTrue(set(separator) <= set(free_of(graph, places)))
        return told

    def test_farthest_separators(self):
        for graph, places in list(drawn_cases(8, 12, 2)) + [(ROWS, CORNERS)]:
            for index in range(len(places)):
                _, separator = self.right(graph, places, index)
                self.assertEqual(separator, farthest_by_eye(graph, places, index))

    def test_by_example(self):
        self.assertEqual(strength(ROWS, CORNERS, 0)[1], [1, 4])
        # Two nodes cut the corner on the right off, the farther ones as well as its neighbours.
        self.assertEqual(self.right(ROWS, CORNERS, 1)[1], [2, 7])
        self.assertEqual(self.right(grid(1, 9), [[0], [8]], 0), ([[1, 2, 3, 4, 5, 6, 7]], [7]))
        self.assertEqual(self.right(grid(1, 9), [[0], [8]], 1)[1], [1])
        self.assertEqual(self.right(Graph(2, []), [[0], [1]], 0), ([], []))
        self.assertEqual(self.right(grid(1, 3), [[0], [2]], 0), ([[1]], [1]))
        # Only free nodes count: the third place stands between the others.
        self.assertEqual(self.right(grid(1, 5), [[0], [2], [4]], 0), ([[1]], [1]))
        self.assertEqual(self.right(grid(1, 5), [[0], [2], [4]], 1)[1], [1, 3])

    def test_at_most_as_many_as_each_cutting_set_has(self):
        for graph, places in drawn_cases(8, 8, 3):
            least = len(least_cuts(graph, places)[0])
            for index in range(len(places)):
                self.assertLessEqual(len(self.right(graph, places, index)[0]), least)

    def test_large_graphs(self):
        source = random.Random(4)
        for graph in large_graphs():
            for many in (2, 3, 6):
                places = drawn_places(graph, source, many)
                for index in range(many if places else 0):
                    self.right(graph, places, index)

    def test_wrong_arguments(self):
        for index in not_numbers(0, 2) + [-1, 3]:
            with self.assertRaises(BadArgument, msg=index):
                strength(ROWS, CORNERS, index)
        for value in wrong_values() + [[], [[0]], [[0], [1]], [[0], []], ([0], [3])]:
            with self.assertRaises(BadArgument, msg=value):
                strength(ROWS, value, 0)


class Growing(unittest.TestCase):
    def by_eye(self, graph, places):
        told = [list(place) for place in places]
        for index in range(len(told)):
            border, _ = borders_by_eye(graph, told, index)
            barred = [v for place in told for v in place] + farthest_by_eye(graph, told, index)
            told[index] = sorted(set(told[index]) | found_from(graph, border, barred))
        return told

    def test_step_by_step(self):
        for graph, places in list(drawn_cases(8, 12, 5)) + [(ROWS, CORNERS), (ROWS, CORNERS[::-1])]:
            told = grow(graph, places)
            self.assertEqual(told, self.by_eye(graph, places))
            self.assertIs(are_places(graph, told), True)

    def test_borders_and_cutting_sets(self):
        for graph, places in drawn_cases(8, 8, 6):
            told = grow(graph, places)
            for index in range(len(told)):
                self.assertEqual(len(borders_by_eye(graph, told, index)[0]), len(strength(graph, told, index)[0]))
            before, after = least_cuts(graph, places), least_cuts(graph, told)
            self.assertEqual(len(before[0]), len(after[0]))
            for nodes in after:
                self.assertIn(nodes, before)

    def test_by_example(self):
        self.assertEqual(grow(grid(1, 9), [[0], [8]]), [[0, 1, 2, 3, 4, 5, 6], [8]])
        self.assertEqual(grow(grid(1, 9), [[8], [0]]), [[2, 3, 4, 5, 6, 7, 8], [0]])
        self.assertEqual(grow(Graph(3, []), [[0], [2]]), [[0], [2]])
        self.assertEqual(grow(Graph(3, [(0, 1)]), [[0], [2]]), [[0, 1], [2]])
        self.assertEqual(grow(Graph(3, [(0, 1)]), [[2], [0]]), [[2], [0, 1]])
        self.assertEqual(grow(two_sides(2, 3), [[0], [1]]), [[0], [1]])

    def test_large_graphs(self):
        source = random.Random(7)
        for graph in large_graphs():
            for many in (2, 3, 6):
                places = drawn_places(graph, source, many)
                if places:
                    told = grow(graph, places)
                    self.assertIs(are_places(graph, told), True)
                    for index, place in enumerate(places):
                        self.assertTrue(set(place) <= set(told[index]))
                        self.assertEqual(len(borders_by_eye(graph, told, index)[0]),
                                         len(strength(graph, told, index)[0]))

    def test_what_are_no_places(self):
        for value in wrong_values() + [[], [[0]], [[0], [1]], [[0], []], ([0], [3]), [(0,), (3,)]]:
            with self.assertRaises(BadArgument, msg=value):
                grow(ROWS, value)


class Cuts(unittest.TestCase):
    def right(self, graph, places):
        told = cut(graph, places)
        self.assertIs(is_cutting(graph, places, told), True)
        self.assertTrue(cuts(graph, places, told))
        return told

    def test_against_all_cutting_sets(self):
        for graph, places in list(drawn_cases(8, 12, 8)) + list(drawn_cases(11, 3, 9)) + [(ROWS, CORNERS)]:
            self.assertIn(self.right(graph, places), least_cuts(graph, places))

    def test_12_free_nodes(self):
        for graph, places, size in ((Graph(14, []), [[0], [1]], 0), (two_sides(2, 12), [[0], [1]], 12),
                                    (two_sides(28, 12), [[v] for v in range(28)], 12), (grid(1, 14), [[0], [13]], 1),
                                    (ring(14), [[0], [7]], 2), (ring(15), [[0], [5], [10]], 3), (ROWS, CORNERS, 3),
                                    (Graph(40, []), [[v] for v in range(28)], 0),
                                    (Graph(14, clique(13).edges), [[12], [13]], 0)):
            self.assertEqual(len(self.right(graph, places)), size)
        # Each of 12 free nodes, all adjacent to each other, has a place of its own: all but one are cut.
        spikes = Graph(24, sorted(clique(12).edges + [(v, v + 12) for v in range(12)]))
        self.assertEqual(len(self.right(spikes, [[v] for v in range(12, 24)])), 11)

    def test_more_than_12_free_nodes(self):
        for graph, places in ((Graph(15, []), [[0], [1]]), (Graph(40, []), [[0], [1]]), (grid(3, 5), [[0], [14]]),
                              (Graph(40, []), [[v] for v in range(27)])):
            with self.assertRaises(TooLarge):
                cut(graph, places)

    def test_what_are_no_places(self):
        for value in wrong_values() + [[], [[0]], [[0], [1]], [[0], []], ([0], [3]), [(0,), (3,)]]:
            for graph in (ROWS, Graph(40, [(0, 1)])):
                with self.assertRaises(BadArgument, msg=value):
                    cut(graph, value)


class CutsOrPapers(unittest.TestCase):
    def right(self, graph, places, k):
        answer = cut_or_paper(graph, places, k)
        self.assertIs(type(answer), tuple)
        strengths = [len(separators(graph, places, index)[0]) for index in range(len(places))]
        least = len(least_cuts(graph, places)[0])
        if max(strengths) > k:
            word, index, ways = answer
            self.assertEqual((word, index), ("paper", [size > k for size in strengths].index(True)))
            self.assertEqual(len(ways), k + 1)
            self.assertTrue(are_ways_by_eye(graph, places, index, ways))
            self.assertIs(refuses_cut(graph, places, k, index, ways), True)
            self.assertGreater(least, k)
        elif least <= k:
            word, nodes = answer
            self.assertEqual(word, "cut")
            self.assertLessEqual(len(nodes), k)
            self.assertIs(is_cutting(graph, places, nodes), True)
        else:
            self.assertEqual(answer, ("none",))
        return answer

    def test_small_graphs(self):
        words = []
        for graph, places in list(drawn_cases(8, 12, 10)) + [(ROWS, CORNERS), (ring(9), [[0], [3], [6]])]:
            for k in (0, 1, 2, 3, 4, 40):
                words.append(self.right(graph, places, k)[0])
        self.assertEqual(set(words), {"paper", "cut", "none"})

    def test_more_free_nodes(self):
        # With a paper, the number of the free nodes does not matter.
        self.assertEqual(cut_or_paper(two_sides(2, 38), [[0], [1]], 3), ("paper", 0, [[2], [3], [4], [5]]))
        self.assertEqual(len(cut_or_paper(two_sides(2, 38), [[0], [1]], 37)[2]), 38)
        for k in (38, 40):
            with self.assertRaises(TooLarge):
                cut_or_paper(two_sides(2, 38), [[0], [1]], k)
        self.assertEqual(cut_or_paper(grid(1, 40), [[0], [39]], 0), ("paper", 0, [list(range(1, 39))]))
        with self.assertRaises(TooLarge):
            cut_or_paper(grid(1, 40), [[0], [39]], 1)
        with self.assertRaises(TooLarge):
            cut_or_paper(Graph(15, []), [[0], [1]], 0)
        # The first place that is too strong is the second one.
        graph = Graph(20, [(0, 3), (1, 3), (1, 4), (1, 5), (2, 4), (2, 5)])
        self.assertEqual(cut_or_paper(graph, [[0], [1], [2]], 1)[:2], ("paper", 1))
        self.assertEqual(cut_or_paper(graph, [[0], [2], [1]], 1)[:2], ("paper", 1))

    def test_wrong_arguments(self):
        for k in not_numbers(0, 40) + [-1, 41]:
            for graph, places in ((ROWS, CORNERS), (Graph(40, []), [[0], [1]])):
                with self.assertRaises(BadArgument, msg=k):
                    cut_or_paper(graph, places, k)
                with self.assertRaises(BadArgument, msg=k):
                    refuses_cut(graph, places, k, 0, [])
                with self.assertRaises(BadArgument, msg=k):
                    refuses_cut(graph, places, k, None, None)
        for value in wrong_values() + [[], [[0]], [[0], [1]], [[0], []], ([0], [3])]:
            for graph in (ROWS, Graph(40, [(0, 1)])):
                with self.assertRaises(BadArgument, msg=value):
                    cut_or_paper(graph, value, 0)
                with self.assertRaises(BadArgument, msg=value):
                    refuses_cut(graph, value, 0, 0, [])
                with self.assertRaises(BadArgument, msg=value):
                    refuses_cut(graph, value, 0, None, None)


class Refusals(unittest.TestCase):
    def test_spoilt_ways(self):
        ways = [[1, 2], [4, 5, 6, 7]]
        self.assertIs(refuses_cut(ROWS, [[0], [3]], 1, 0, ways), True)
        self.assertIs(refuses_cut(ROWS, [[0], [3]], 0, 0, ways), True)
        self.assertIs(refuses_cut(ROWS, [[0], [3]], 2, 0, ways), False)
        self.assertIs(refuses_cut(ROWS, [[0], [3]], 0, 0, ways[:1]), True)
        self.assertIs(refuses_cut(ROWS, [[0], [3]], 0, 1, ways), False)
        self.assertIs(refuses_cut(ROWS, [[0], [3]], 0, 1, [way[::-1] for way in ways]), True)
        for spoilt in (ways[:1], [[1, 2], [1, 2]], [[1, 2], [4, 5, 6]], [[1, 2], [5, 6, 7]], [[1, 2], [4, 6, 7]],
                       [[1, 2], [7, 6, 5, 4]], [[1, 2], [4, 5, 6, 2]], [[0, 1, 2], [4, 5, 6, 7]],
                       [[1, 2, 3], [4, 5, 6, 7]],
                       [[1, 2], [4, 5, 1, 2]], [(1, 2), (4, 5, 6, 7)], ([1, 2], [4, 5, 6, 7]), [[1, 2], []], [],
                       [[], []],
                       [[True, 2], [4, 5, 6, 7]], [[1, 2.0], [4, 5, 6, 7]], [["1", "2"], [4, 5, 6, 7]], None,
                       [[1, 2], [4, 8, 9, 10, 11, 7, 6]], [[1, 2], [4, 5, 6, 7, 12]], {0: [1, 2], 1: [4, 5, 6, 7]}):
            self.assertIs(refuses_cut(ROWS, [[0], [3]], 1, 0, spoilt), False, spoilt)
        for value in wrong_values():
            self.assertIs(refuses_cut(ROWS, [[0], [3]], 1, 0, value), False, value)
            self.assertIs(refuses_cut(ROWS, [[0], [3]], 1, 0, ways[:1] + [value]), False, value)
            self.assertIs(refuses_cut(ROWS, [[0], [3]], 1, 0, ways + [value]), False, value)
            if type(value) is not int or value not in (0, 1):
                self.assertIs(refuses_cut(ROWS, [[0], [3]], 1, value, ways), False, value)
                self.assertIs(refuses_cut(ROWS, [[0], [3]], 1, value, value), False, value)
        self.assertIs(refuses_cut(ROWS, [[0], [3]], 1, 2, ways), False)
        # Places are not counted from the end.
        self.assertIs(refuses_cut(grid(1, 5), [[0], [4]], 0, -1, [[3]]), False)
        self.assertIs(refuses_cut(grid(1, 5), [[0], [4]], 0, -1, [[3, 2, 1]]), False)

    def test_ways_through_places(self):
        # A way does not go through a third place, and its ends alone are in the borders.
        line = grid(1, 5)
        self.assertIs(refuses_cut(line, [[0], [4]], 0, 0, [[1, 2, 3]]), True)
        self.assertIs(refuses_cut(line, [[0], [2], [4]], 0, 0, [[1, 2, 3]]), False)
        self.assertIs(refuses_cut(line, [[0], [2], [4]], 0, 0, [[1]]), True)
        self.assertIs(refuses_cut(line, [[0], [2], [4]], 1, 1, [[1], [3]]), True)
        self.assertIs(refuses_cut(line, [[0], [2], [4]], 0, 0, [[3]]), False)
        self.assertIs(refuses_cut(line, [[0], [4]], 0, 0, [[1, 2]]), False)

    def test_never_where_there_is_a_cutting_set(self):
        for graph, places in drawn_cases(6, 1, 11):
            least = len(least_cuts(graph, places)[0])
            walks = [list(walk) for size in (1, 2, 3) for walk in permutations(range(graph.nodes), size)]
            for index in range(len(places)):
                good = [walk for walk in walks if are_ways_by_eye(graph, places, index, [walk])]
                for size in (1, 2):
                    for ways in combinations(good, size):
                        if refuses_cut(graph, places, size - 1, index, list(ways)):
                            self.assertGreaterEqual(least, size)
                            self.assertTrue(are_ways_by_eye(graph, places, index, ways))
                        else:
                            self.assertFalse(are_ways_by_eye(graph, places, index, ways))


class LeftAsTheyWere(unittest.TestCase):
    def test_arguments(self):
        graph, places, nodes, ways = Graph(12, ROWS.edges), [[0], [3], [8]], [1, 2, 4, 7], [[1, 2], [4]]
        are_places(graph, places)
        is_cutting(graph, places, nodes)
        refuses_cut(graph, places, 1, 0, ways)
        for call in (grow, cut, lambda *given: strength(*given, 1), lambda *given: cut_or_paper(*given, 1),
                     lambda *given: cut_or_paper(*given, 4)):
            call(graph, places)
        self.assertEqual((places, nodes, ways), ([[0], [3], [8]], [1, 2, 4, 7], [[1, 2], [4]]))
        self.assertEqual(graph, ROWS)
        self.assertEqual([graph.neighbours(v) for v in range(12)], [ROWS.neighbours(v) for v in range(12)])

    def test_lists_are_new(self):
        places = [[0], [3], [8]]
        for call in (lambda: [strength(ROWS, places, 0)[1]] + strength(ROWS, places, 0)[0], lambda: [cut(ROWS, places)],
                     lambda: [grow(ROWS, places)] + grow(ROWS, places), lambda: [cut_or_paper(ROWS, places, 1)[2]],
                     lambda: [cut_or_paper(ROWS, places, 4)[1]]):
            before = call()
            for told in call():
                told.append(None)
            self.assertEqual(call(), before)
        alone = [[0], [1]]
        told = grow(Graph(2, []), alone)
        self.assertEqual(told, alone)
        self.assertIsNot(told, alone)
        self.assertFalse([place for place in told if any(place is one for one in alone)])


if __name__ == "__main__":
    unittest.main()
