import random
import unittest
from itertools import combinations, permutations

from cherrystone.errors import BadArgument, TooLarge
from cherrystone.graphs import Graph, make_graph
from cherrystone.widths import (best_decomposition, eliminate, greatest_refuge, is_decomposition, is_refuge,
                                lift_decomposition, refuses_width, width_kernel, width_of)
from tests.samples import all_graphs, apart, clique, components_by_eye, drawn, drawn_graphs, found_from, grid
from tests.samples import large_graphs, near_sets, not_numbers, petersen, ring, subsets, two_sides, wrong_values

# A path of three nodes, a cycle of three nodes, and a bag for each edge of the path.
KITE = Graph(5, [(0, 1), (1, 2), (2, 3), (2, 4), (3, 4)])
SPLIT = ([[0, 1], [1, 2], [2, 3, 4]], [(0, 1), (1, 2)])


def joined_by_eye(many, links):
    """Whether the links join so many things, each one with each other one."""
    return len(components_by_eye(Graph(many, sorted(set(links))))) <= 1


def is_decomposition_by_eye(graph, bags, links):
    """Whether the node lists and the links, which are well-formed, are a decomposition."""
    if len(links) != len(bags) - 1 or not joined_by_eye(len(bags), links):
        return False
    if not all(any(set(pair) <= set(bag) for bag in bags) for pair in graph.edges):
        return False
    for v in range(graph.nodes):
        held = [i for i, bag in enumerate(bags) if v in bag]
        place = {i: k for k, i in enumerate(held)}
        inside = [(place[i], place[j]) for i, j in links if i in place and j in place]
        if not held or not joined_by_eye(len(held), inside):
            return False
    return True


def eliminate_by_eye(graph, order):
    if not order:
        return [[]], []
    near = near_sets(graph)
    bags, links = [], []
    for at, v in enumerate(order):
        later = [u for u in order[at + 1:] if u in near[v]]
        bags.append(sorted([v] + later))
        for u, w in combinations(later, 2):
            near[u].add(w)
            near[w].add(u)
        if later:
            links.append((at, order.index(later[0])))
        elif at < len(order) - 1:
            links.append((at, at + 1))
    return bags, sorted(links)


def width_by_eye(graph):
    """The least width of all orders."""
    if not graph.nodes:
        return -1
    return min(max(map(len, eliminate_by_eye(graph, order)[0])) for order in permutations(range(graph.nodes))) - 1


def widths():
    """Graphs with at most 5 nodes, and their widths."""
    return [(graph, width_by_eye(graph)) for graph in all_graphs(4)] + [
        (graph, width_by_eye(graph)) for graph in drawn_graphs(5, 5)] + [
        (graph, width_by_eye(graph)) for graph in drawn_graphs(6, 1)]


def part_by_eye(graph, searched, v):
    return tuple(sorted(found_from(graph, [v], searched)))


def positions_by_eye(graph, k):
    few = [searched for size in range(k + 1) for searched in combinations(range(graph.nodes), size)]
    return [(searched, tuple(sorted(part))) for searched in few for part in components_by_eye(graph, searched)]


def escapes(graph, k, positions, position):
    searched, part = position
    for v in searched:
        less = tuple(u for u in searched if u != v)
        if (less, part_by_eye(graph, less, part[0])) not in positions:
            return False
    if len(searched) < k:
        for v in range(graph.nodes):
            more = tuple(sorted(searched + (v,)))
            if v not in searched and not any(one == more and set(other) <= set(part) for one, other in positions):
                return False
    return True


def greatest_by_eye(graph, k):
    positions = positions_by_eye(graph, k)
    left = []
    while len(left) != len(positions):
        left, positions = positions, [one for one in positions if escapes(graph, k, positions, one)]
    return sorted(positions) or None


def covers_of(graph):
    return [nodes for nodes in subsets(range(graph.nodes)) if all(u in nodes or v in nodes for u, v in graph.edges)]


class Changing:
    """A graph that a trace changes, step by step."""

    def __init__(self, graph):
        self.near = near_sets(graph)

    def tight(self, v):
        return all(w in self.near[u] for u, w in combinations(self.near[v], 2))

    def can(self, step, w):
        if step[0] == "join":
            _, u, v = step
            there = u in self.near and v in self.near and u < v
            return there and v not in self.near[u] and len(self.near[u] & self.near[v]) > w
        _, v, beside = step
        right = v in self.near and tuple(sorted(self.near[v])) == beside
        return right and len(beside) <= w and self.tight(v)

    def do(self, step):
        if step[0] == "join":
            _, u, v = step
            self.near[u].add(v)
            self.near[v].add(u)
        else:
            for u in self.near.pop(step[1]):
                self.near[u].discard(step[1])


class Equal:
    """A value that is equal to everything."""

    def __eq__(self, other):
        return True

    def __ne__(self, other):
        return False


class Decompositions(unittest.TestCase):
    def test_by_example(self):
        bags, links = SPLIT
        self.assertIs(is_decomposition(KITE, SPLIT), True)
        for bags, links, right in (
                ([[0, 1, 2, 3, 4]], [], True), (bags[::-1], [(0, 1), (1, 2)], True), (bags, [(0, 2), (1, 2)], False),
                (bags, [(0, 1), (0, 2)], False), (bags, [(0, 1)], False), (bags, [(1, 2), (0, 1)], False),
                (bags, [(0, 1), (0, 2), (1, 2)], False), (bags, [(0, 1), (2, 1)], False),
                (bags, [(0, 1), (1, 3)], False),
                (bags, [(0, 1), (0, 1)], False), (bags, [], False), (bags + [[]], [(0, 1), (1, 2), (1, 3)], True),
                (bags + [[]], [(0, 1), (1, 2)], False), (bags + [[2]], [(0, 1), (1, 2), (1, 3)], True),
                (bags + [[2]], [(0, 1), (0, 3), (1, 2)], False),
                (bags + bags, [(0, 1), (0, 3), (1, 2), (1, 4), (2, 5)], True),
                (bags + bags, [(0, 1), (0, 3), (1, 2), (1, 5), (2, 4)], False),
                (bags + [bags[2]], [(0, 1), (1, 2), (2, 3)], True), (bags[:2] + [[2, 3]], links, False),
                (bags[:2] + [[2, 3], [3, 4], [2, 4]], [(0, 1), (1, 2), (2, 3), (3, 4)], False),
                ([[1, 0], [1, 2], [2, 3, 4]], links, False), ([[0, 1], [1, 2], [2, 3, 4, 5]], links, False),
                ([[0, 1], [1, 2, 2], [2, 3, 4]], links, False), ([], [], False), ([[]], [], False)):
            self.assertIs(is_decomposition(KITE, (bags, links)), right, (bags, links))
        self.assertIs(is_decomposition(Graph(0, []), ([[]], [])), True)
        self.assertIs(is_decomposition(Graph(0, []), ([[], []], [(0, 1)])), True)
        self.assertIs(is_decomposition(Graph(0, []), ([[], []], [])), False)
        self.assertIs(is_decomposition(Graph(0, []), ([], [])), False)
        self.assertIs(is_decomposition(Graph(1, []), ([[]], [])), False)
        self.assertIs(is_decomposition(Graph(40, []), ([[v] for v in range(40)], [(v, v + 1) for v in range(39)])),
                      True)

    def test_drawn_bags_and_links(self):
        source = random.Random(1)
        right = 0
        for _ in range(4000):
            graph = drawn(source.randrange(5), source.choice((20, 40)), source.randrange(5))
            many = source.randrange(1, 5)
            bags = [sorted(source.sample(range(graph.nodes), source.randrange(graph.nodes + 1))) for _ in range(many)]
            pairs = list(combinations(range(many), 2))
            links = sorted(source.sample(pairs, min(len(pairs), source.choice((many - 1, many - 1, many - 1, many)))))
            told = is_decomposition(graph, (bags, links))
            self.assertIs(told, is_decomposition_by_eye(graph, bags, links), (graph.edges, bags, links))
            right += told
        self.assertGreater(right, 100)

    def test_spoilt_ones(self):
        for graph in list(drawn_graphs(7, 2)) + [ring(7), grid(2, 4), petersen()]:
            bags, links = eliminate(graph, list(range(graph.nodes)))
            self.assertIs(is_decomposition(graph, (bags, links)), True)
            for at in range(len(bags)):
                for v in bags[at]:
                    fewer = bags[:at] + [[u for u in bags[at] if u != v]] + bags[at + 1:]
                    self.assertIs(is_decomposition(graph, (fewer, links)), is_decomposition_by_eye(graph, fewer, links))
                for pair in combinations(range(len(bags)), 2):
                    other = sorted(set(links[:at] + links[at + 1:]) | {pair})
                    self.assertIs(is_decomposition(graph, (bags, other)), is_decomposition_by_eye(graph, bags, other))

    def test_many_bags(self):
        many = 1000
        bags = [[0, 1, 2, 3, 4]] * many
        self.assertIs(is_decomposition(KITE, (bags, [(i, i + 1) for i in range(many - 1)])), True)
        self.assertIs(is_decomposition(KITE, (bags, [(0, i) for i in range(1, many)])), True)
        self.assertIs(is_decomposition(KITE, (bags[:-1] + [[0], []], [(0, i) for i in range(1, many + 1)])), True)
        self.assertIs(is_decomposition(KITE, (bags, [(0, i) for i in range(2, many)])), False)

    def test_values_of_all_kinds(self):
        bags, links = SPLIT
        for value in wrong_values():
            for whole in (value, (value, value), (bags, value), (value, links), (bags + [value], links),
                          (bags, links, value),
                          (bags, links + [value]), (bags[:2] + [value], links), [bags, value]):
                self.assertIs(is_decomposition(KITE, whole), False, whole)
        for whole in ([bags, links], (tuple(bags), links), (bags, tuple(links)), (bags, [list(pair) for pair in links]),
                      ([tuple(bag) for bag in bags], links), (bags, [(0, 1), (True, 2)]), (bags, [(0, 1), (1.0, 2)]),
                      (bags, [(False, 1), (1, 2)]), ([[False, 1], [1, 2], [2, 3, 4]], links), (bags, {(0, 1), (1, 2)}),
                      ([[0, 1], [1, 2.0], [2, 3, 4]], links), (bags, [(0, 1), (1, "2")]), (bags, [(0, 1), (1, 2, 2)]),
                      ({0: bags[0], 1: bags[1], 2: bags[2]}, links), (bags, {(0, 1): 0, (1, 2): 0}), (bags,), ()):
            self.assertIs(is_decomposition(KITE, whole), False, whole)


class WidthOf(unittest.TestCase):
    def test_numbers(self):
        self.assertEqual(width_of(KITE, SPLIT), 2)
        self.assertEqual(width_of(KITE, ([[0, 1, 2, 3, 4]], [])), 4)
        self.assertEqual(width_of(Graph(0, []), ([[]], [])), -1)
        self.assertEqual(width_of(Graph(0, []), ([[], [], []], [(0, 1), (0, 2)])), -1)
        self.assertEqual(width_of(Graph(1, []), ([[], [0]], [(0, 1)])), 0)
        self.assertEqual(width_of(Graph(40, []), ([list(range(40))], [])), 39)

    def test_what_is_no_decomposition(self):
        for value in wrong_values() + [([], []), ([[]], []), (SPLIT[0], []), list(SPLIT), (SPLIT[0], [(0, 1), (0, 2)])]:
            with self.assertRaises(BadArgument, msg=value):
                width_of(KITE, value)


class Eliminations(unittest.TestCase):
    def right(self, graph, order):
        told = eliminate(graph, order)
        self.assertIs(type(told), tuple)
        self.assertEqual(told, eliminate_by_eye(graph, order))
        self.assertIs(is_decomposition(graph, told), True)

    def test_all_orders(self):
        for graph in list(all_graphs(4)) + list(drawn_graphs(5, 2)) + [ring(6), grid(2, 3)]:
            for order in permutations(range(graph.nodes)):
                self.right(graph, list(order))

    def test_by_example(self):
        self.assertEqual(eliminate(Graph(0, []), []), ([[]], []))
        self.assertEqual(eliminate(Graph(1, []), [0]), ([[0]], []))
        self.assertEqual(eliminate(Graph(3, []), [2, 0, 1]), ([[2], [0], [1]], [(0, 1), (1, 2)]))
        self.assertEqual(eliminate(KITE, [0, 1, 2, 3, 4]), ([[0, 1], [1, 2], [2, 3, 4], [3, 4], [4]],
                                                             [(0, 1), (1, 2), (2, 3), (3, 4)]))
        self.assertEqual(eliminate(KITE, [2, 0, 1, 3, 4]), ([[1, 2, 3, 4], [0, 1], [1, 3, 4], [3, 4], [4]],
                                                             [(0, 2), (1, 2), (2, 3), (3, 4)]))

    def test_large_graphs(self):
        source = random.Random(2)
        for graph in large_graphs():
            for order in (list(range(40)), list(range(39, -1, -1)), source.sample(range(40), 40)):
                self.right(graph, order)

    def test_what_is_no_order(self):
        for value in wrong_values() + [[], [0, 1, 2, 3], [0, 1, 2, 3, 4, 5], [0, 1, 2, 3, 3], [0, 1, 2, 3, 5],
                                       (0, 1, 2, 3, 4),
                                       [0, 1, 2, 3, 4.0], [0, True, 2, 3, 4], [0, 1, 2, 3, "4"], [0, 1, 2, 3, 4, 4],
                                       [-1, 0, 1, 2, 3]]:
            with self.assertRaises(BadArgument, msg=value):
                eliminate(KITE, value)
        for value in ([0], [[]], None):
            with self.assertRaises(BadArgument, msg=value):
                eliminate(Graph(0, []), value)


class BestDecompositions(unittest.TestCase):
    def right(self, graph):
        told = best_decomposition(graph)
        self.assertIs(is_decomposition(graph, told), True)
        return width_of(graph, told)

    def test_against_all_orders(self):
        for graph, width in widths() + [(graph, width_by_eye(graph)) for graph in (ring(7), grid(2, 3),
                                                                                   two_sides(3, 3))]:
            self.assertEqual(self.right(graph), width)

    def test_10_nodes(self):
        for graph, width in ((Graph(10, []), 0), (clique(10), 9), (grid(1, 10), 1), (ring(10), 2), (two_sides(4, 6), 4),
                             (two_sides(5, 5), 5), (petersen(), 4), (grid(2, 5), 2), (grid(3, 3), 3), (ring(10, 2), 4),
                             (apart(clique(5), ring(5)), 4), (two_sides(1, 9), 1), (Graph(1, []), 0),
                             (Graph(0, []), -1)):
            self.assertEqual(self.right(graph), width)
        for graph in drawn_graphs(10, 2):
            self.right(graph)

    def test_no_nodes(self):
        self.assertEqual(best_decomposition(Graph(0, [])), ([[]], []))

    def test_more_than_10_nodes(self):
        for graph in (Graph(11, []), clique(11), ring(11)) + tuple(large_graphs()):
            with self.assertRaises(TooLarge):
                best_decomposition(graph)


class Refuges(unittest.TestCase):
    def test_exactly_if_the_width_is_at_least_k(self):
        for graph, width in widths():
            for k in range(8):
                told = greatest_refuge(graph, k)
                self.assertEqual(told is not None, width >= k)
                self.assertEqual(told, greatest_by_eye(graph, k))
                if told is not None:
                    self.assertIs(is_refuge(graph, k, told), True)
                    self.assertEqual(told, sorted(told))

    def test_8_nodes(self):
        for graph in (clique(8), ring(8), ring(8, 2), grid(2, 4), two_sides(4, 4), petersen().without([3, 8]),
                      Graph(8, []),
                      apart(clique(4), clique(4))):
            width = width_of(graph, best_decomposition(graph))
            for k in range(10):
                told = greatest_refuge(graph, k)
                self.assertEqual(told is not None, width >= k)
                if told is not None:
                    self.assertIs(is_refuge(graph, k, told), True)
                    if k < 4:
                        self.assertEqual(told, greatest_by_eye(graph, k))

    def test_by_example(self):
        self.assertEqual(greatest_refuge(Graph(2, [(0, 1)]), 1), [((), (0, 1)), ((0,), (1,)), ((1,), (0,))])
        self.assertEqual(greatest_refuge(Graph(2, []), 0), [((), (0,)), ((), (1,))])
        self.assertIsNone(greatest_refuge(Graph(2, []), 1))
        for k in range(10):
            self.assertIsNone(greatest_refuge(Graph(0, []), k))

    def test_each_list_of_positions(self):
        for graph, k in ((Graph(2, [(0, 1)]), 1), (Graph(2, [(0, 1)]), 2), (Graph(3, [(0, 1), (1, 2)]), 1),
                         (clique(3), 1),
                         (Graph(3, [(0, 2)]), 1), (Graph(3, []), 0), (Graph(3, []), 2), (ring(4), 1), (clique(3), 2)):
            positions = sorted(positions_by_eye(graph, k))
            for size in range(len(positions) + 1):
                for chosen in combinations(positions, size):
                    right = size > 0 and all(escapes(graph, k, chosen, one) for one in chosen)
                    self.assertIs(is_refuge(graph, k, list(chosen)), right, chosen)

    def test_one_position_more_or_less(self):
        for graph, k in ((ring(6), 2), (grid(2, 3), 2), (clique(5), 3), (two_sides(3, 3), 3),
                         (apart(ring(3), ring(4)), 2)):
            told = greatest_refuge(graph, k)
            for at in range(len(told)):
                fewer = told[:at] + told[at + 1:]
                self.assertIs(is_refuge(graph, k, fewer), all(escapes(graph, k, fewer, one) for one in fewer))
            for more in set(positions_by_eye(graph, k)) - set(told):
                self.assertIs(is_refuge(graph, k, sorted(told + [more])), False)
            self.assertIs(is_refuge(graph, k, told[::-1]), False)
            self.assertIs(is_refuge(graph, k, told[:1] + told), False)
            # From fewer searchers, the positions with all of k searchers are none.
            self.assertIs(is_refuge(graph, k - 1, told), False)
            self.assertIs(is_refuge(graph, k - 1, [one for one in told if len(one[0]) < k]), True)
            self.assertIs(is_refuge(graph, k + 1, told), False)

    def test_large_graphs(self):
        for graph in large_graphs():
            parts = [((), tuple(sorted(part))) for part in components_by_eye(graph)]
            self.assertIs(is_refuge(graph, 0, parts), True)
            self.assertIs(is_refuge(graph, 0, parts[:1]), True)
            self.assertIs(is_refuge(graph, 1, parts), False)
        few = positions_by_eye(clique(40), 2)
        self.assertIs(is_refuge(clique(40), 2, sorted(few)), True)
        ways = sorted(positions_by_eye(ring(40), 2))
        self.assertIs(is_refuge(ring(40), 2, ways), True)

    def test_values_of_all_kinds(self):
        graph = Graph(3, [(0, 1), (1, 2)])
        right = [((), (0, 1, 2)), ((0,), (1, 2)), ((1,), (2,)), ((2,), (0, 1))]
        self.assertIs(is_refuge(graph, 1, right), True)
        for value in wrong_values():
            for whole in (value, [value], right + [value], [value] + right, right[:3] + [((2,), value)],
                          right[:3] + [(value, (0, 1))], right[:3] + [(value, value)],
                          right[:3] + [((2,), (0, 1), value)]):
                if repr(whole) != repr(right):
                    self.assertIs(is_refuge(graph, 1, whole), False, whole)
        for spoilt in (tuple(right), {one: True for one in right}, [list(one) for one in right], iter(right), "",
                       right[:3] + [((2,), [0, 1])], right[:3] + [([2], (0, 1))], right[:3] + [((2,), (0, True))],
                       right[:3] + [((2,), (1, 0))], right[:3] + [((2.0,), (0, 1))], right[:3] + [((2,), (0,))],
                       right[:3] + [((2,), ())], right[:3] + [((3,), (0, 1, 2))], right[:3] + [((2,), (0, 1, 2))],
                       right[:2] + [((True,), (2,))] + right[3:], [([], (0, 1, 2))] + right[1:], []):
            self.assertIs(is_refuge(graph, 1, spoilt), False, spoilt)
        for value in wrong_values() + [[], [()], [((), ())]]:
            self.assertIs(is_refuge(Graph(0, []), 0, value), False, value)

    def test_wrong_numbers(self):
        for k in not_numbers(0, 9) + [-1, 10]:
            for graph in (KITE, Graph(0, []), clique(40)):
                with self.assertRaises(BadArgument, msg=k):
                    greatest_refuge(graph, k)
                for value in ([], None):
                    with self.assertRaises(BadArgument, msg=k):
                        is_refuge(graph, k, value)
        for graph in (Graph(9, []), clique(9)) + tuple(large_graphs()):
            for k in (0, 9):
                with self.assertRaises(TooLarge):
                    greatest_refuge(graph, k)


class Kernels(unittest.TestCase):
    def right(self, graph, cover, w):
        """Checks the answer against point 39, the trace step by step, and returns it."""
        answer = width_kernel(graph, cover, w)
        self.assertIs(type(answer), tuple)
        kernel, paper = answer
        trace = paper[0] if kernel is None else kernel[2]
        rest = Changing(graph)
        for step in trace:
            self.assertIs(type(step), tuple)
            self.assertTrue(rest.can(step, w), step)
            self.assertTrue({step[1], step[2]} <= set(cover) if step[0] == "join" else step[1] not in cover)
            rest.do(step)
        outside = [v for v in rest.near if v not in cover]
        self.assertFalse([v for v in outside if rest.tight(v) and len(rest.near[v]) <= w])
        self.assertFalse([pair for pair in combinations(cover, 2) if rest.can(("join",) + pair, w)])
        full = {v: sorted([v] + sorted(rest.near[v])[:w + 1]) for v in outside if rest.tight(v)}
        if kernel is None:
            self.assertIn(paper[1], list(full.values()))
            self.assertIs(refuses_width(graph, w, *paper), True)
        else:
            self.assertIsNone(paper)
            small, nodes, _ = kernel
            self.assertFalse(full)
            self.assertEqual(nodes, sorted(rest.near))
            place = {v: k for k, v in enumerate(nodes)}
            self.assertEqual(small, make_graph(len(nodes), [(place[u], place[v]) for u in nodes for v in rest.near[u]]))
            self.assertLessEqual(len(nodes), len(cover) + w * len(cover) * (len(cover) - 1) // 2)
        return answer

    def test_same_widths(self):
        for graph, width in widths():
            covers = covers_of(graph)
            for cover in covers[:2] + covers[-2:] + covers[2:-2:3]:
                for w in range(5):
                    kernel, _ = self.right(graph, cover, w)
                    if kernel is None:
                        self.assertGreater(width, w)
                    else:
                        small = width_of(kernel[0], best_decomposition(kernel[0]))
                        self.assertEqual(small <= w, width <= w)

    def test_by_example(self):
        self.assertEqual(width_kernel(KITE, [1, 2, 3], 2), ((Graph(3, [(0, 1), (1, 2)]), [1, 2, 3],
                                                             [("drop", 0, (1,)), ("drop", 4, (2, 3))]), None))
        self.assertEqual(width_kernel(KITE, [1, 2, 3], 1), (None, ([("drop", 0, (1,))], [2, 3, 4])))
        self.assertIsNone(self.right(KITE, [1, 2, 3], 0)[0])
        self.assertEqual(width_kernel(two_sides(2, 3), [0, 1], 2)[0][2][0], ("join", 0, 1))
        self.assertEqual(width_kernel(two_sides(2, 3), [0, 1], 1), (None, ([("join", 0, 1)], [0, 1, 2])))
        self.assertEqual(width_kernel(two_sides(2, 3), [0, 1], 2), ((Graph(2, [(0, 1)]), [0, 1], [
            ("join", 0, 1), ("drop", 2, (0, 1)), ("drop", 3, (0, 1)), ("drop", 4, (0, 1))]), None))
        self.assertEqual(width_kernel(two_sides(2, 2), [0, 1], 2), ((two_sides(2, 2), [0, 1, 2, 3], []), None))
        for w in range(10):
            self.assertEqual(width_kernel(Graph(0, []), [], w), ((Graph(0, []), [], []), None))
            self.assertEqual(width_kernel(Graph(2, []), [], w)[0][:2], (Graph(0, []), []))
            self.assertEqual(width_kernel(clique(40), list(range(40)), w), ((clique(40), list(range(40)), []), None))
        self.assertEqual(width_kernel(clique(40), list(range(1, 40)), 9), (None, ([], list(range(11)))))

    def test_joins_count_neighbours_in_the_cover(self):
        # 0 and 1 have two common neighbours in the cover, and one outside of it.
        graph = Graph(5, [(0, 2), (0, 3), (0, 4), (1, 2), (1, 3), (1, 4)])
        kernel, _ = self.right(graph, [0, 1, 2, 3], 2)
        self.assertIn(("join", 0, 1), kernel[2])
        self.assertEqual(kernel[0], Graph(4, [(0, 1), (0, 2), (0, 3), (1, 2), (1, 3)]))

    def test_large_graphs(self):
        for graph in large_graphs():
            whole = list(range(40))
            for cover in (whole, whole[1:], whole[::2], whole[1::2], whole[:20], whole[:3], [0]):
                if all(u in cover or v in cover for u, v in graph.edges):
                    for w in (0, 1, 2, 5, 9):
                        self.right(graph, cover, w)
        source = random.Random(3)
        for size in (3, 5, 8, 12):
            for percent in (15, 30, 60):
                pairs = [(u, v) for u in range(size) for v in range(u + 1, 40) if source.random() * 100 < percent]
                for w in range(10):
                    self.right(Graph(40, pairs), list(range(size)), w)

    def test_wrong_arguments(self):
        for value in wrong_values() + [[], [2], [1, 3], [3, 2, 1], (1, 2, 3), [1, 2, 5], [1, 2, 3.0], [True, 2, 3]]:
            with self.assertRaises(BadArgument, msg=value):
                width_kernel(KITE, value, 2)
        for w in not_numbers(0, 9) + [-1, 10]:
            with self.assertRaises(BadArgument, msg=w):
                width_kernel(KITE, [1, 2, 3], w)
            with self.assertRaises(BadArgument, msg=w):
                refuses_width(KITE, w, [], [2, 3, 4])
            with self.assertRaises(BadArgument, msg=w):
                refuses_width(KITE, w, None, None)


def lift_by_eye(kernel, decomposition):
    _, nodes, trace = kernel
    bags, links = [[nodes[v] for v in bag] for bag in decomposition[0]], list(decomposition[1])
    for step in reversed(trace):
        if step[0] == "drop":
            first = next(i for i, bag in enumerate(bags) if set(step[2]) <= set(bag))
            links.append((first, len(bags)))
            bags.append(sorted((step[1],) + step[2]))
    return bags, sorted(links)


class Lifts(unittest.TestCase):
    def right(self, graph, kernel, decomposition, w):
        told = lift_decomposition(graph, kernel, decomposition)
        self.assertEqual(told, lift_by_eye(kernel, decomposition))
        self.assertIs(is_decomposition(graph, told), True)
        self.assertLessEqual(width_of(graph, told), max(w, width_of(kernel[0], decomposition)))

    def test_small_graphs(self):
        source = random.Random(4)
        for graph, _ in widths():
            for cover in covers_of(graph)[::3]:
                for w in range(5):
                    kernel, _ = width_kernel(graph, cover, w)
                    if kernel is not None:
                        small = kernel[0]
                        self.right(graph, kernel, best_decomposition(small), w)
                        self.right(graph, kernel, ([list(range(small.nodes))], []), w)
                        self.right(graph, kernel, eliminate(small, source.sample(range(small.nodes), small.nodes)), w)
                        bags, links = best_decomposition(small)
                        self.right(graph, kernel, ([[]] + bags, [(0, 1)] + [(i + 1, j + 1) for i, j in links]), w)

    def test_large_graphs(self):
        source = random.Random(5)
        many = 0
        for size in (3, 5, 8):
            for percent in (10, 20, 30, 60):
                pairs = [(u, v) for u in range(size) for v in range(u + 1, 40) if source.random() * 100 < percent]
                graph = Graph(40, pairs)
                for w in range(10):
                    kernel, _ = width_kernel(graph, list(range(size)), w)
                    if kernel is not None:
                        self.right(graph, kernel, eliminate(kernel[0], list(range(kernel[0].nodes))), w)
                        many += 1
        self.assertGreater(many, 20)

    def test_by_example(self):
        kernel, _ = width_kernel(KITE, [1, 2, 3], 2)
        self.assertEqual(lift_decomposition(KITE, kernel, ([[0, 1], [1, 2]], [(0, 1)])),
                         ([[1, 2], [2, 3], [2, 3, 4], [0, 1]], [(0, 1), (0, 3), (1, 2)]))
        kernel, _ = width_kernel(Graph(2, []), [], 0)
        self.assertEqual(lift_decomposition(Graph(2, []), kernel, ([[]], [])), ([[], [1], [0]], [(0, 1), (0, 2)]))

    def test_what_is_no_decomposition_of_the_kernel(self):
        kernel, _ = width_kernel(KITE, [1, 2, 3], 2)
        for value in wrong_values() + [SPLIT, ([], []), ([[]], []), ([[0, 1]], []), [[[0, 1, 2]], []],
                                       ([[0, 1, 2, 3]], []),
                                       ([[0, 1], [1, 2]], []), ([[1, 2], [2, 3]], [(0, 1)]), ([(0, 1, 2)], [])]:
            with self.assertRaises(BadArgument, msg=value):
                lift_decomposition(KITE, kernel, value)


class Refusals(unittest.TestCase):
    def test_any_order_and_any_nodes(self):
        # The trace of a paper may join and drop nodes of any cover, in any order that is possible.
        graph = two_sides(2, 3)
        for trace, clique_told, right in (
                ([("join", 0, 1)], [0, 1, 2], True), ([("join", 0, 1)], [0, 1, 4], True),
                ([("join", 2, 3)], [0, 2, 3], True),
                ([("join", 2, 3)], [2, 3, 4], False), ([("join", 2, 3), ("join", 2, 4), ("join", 3, 4)], [2, 3, 4],
                                                       True),
                ([], [0, 1, 2], False), ([("join", 1, 0)], [0, 1, 2], False), ([("join", 0, 1)] * 2, [0, 1, 2], False),
                ([("join", 0, 2)], [0, 1, 2], False), ([("join", 0, 0)], [0, 1, 2], False),
                ([("join", 0, 5)], [0, 1, 2], False),
                ([("join", 0, 1)], [0, 1], False), ([("join", 0, 1)], [0, 1, 2, 3], False),
                ([("join", 0, 1)], [1, 0, 2], False),
                ([("join", 0, 1), ("drop", 2, (0, 1))], [0, 1, 3], False)):
            self.assertIs(refuses_width(graph, 1, trace, clique_told), right, trace)
        tail = Graph(6, clique(4).edges + [(3, 4), (4, 5)])
        for trace, right in (([], True), ([("drop", 5, (4,))], True), ([("drop", 5, (4,)), ("drop", 4, (3,))], True),
                             ([("drop", 4, (3,))], False), ([("drop", 4, (3, 5))], False),
                             ([("drop", 0, (1, 2, 3))], False),
                             ([("drop", 5, (4,)), ("drop", 5, (4,))], False), ([("drop", 5, ())], False),
                             ([("drop", 5, (3,))], False), ([("drop", 5, [4])], False), ([("drop", 5, (4, 4))], False),
                             ([("drop", 5, (4,)), ("drop", 4, (3, 5))], False), ([("drop", 6, ())], False),
                             ([("drop", 5, (4,)), ("join", 4, 5)], False),
                             ([("drop", 5, (4,)), ("join", 3, 5)], False)):
            self.assertIs(refuses_width(tail, 2, trace, [0, 1, 2, 3]), right, trace)
        # A node is not dropped twice, nor joined with itself.
        twice = [("drop", 5, (4,)), ("drop", 5, ())]
        self.assertIs(refuses_width(tail, 2, twice, [0, 1, 2, 3]), False)
        claw = Graph(8, clique(4).edges + [(4, 5), (4, 6), (4, 7)])
        self.assertIs(refuses_width(claw, 2, [("join", 4, 4)], [0, 1, 2, 3]), False)
        self.assertIs(refuses_width(claw, 2, [("drop", 5, (4,))], [0, 1, 2, 3]), True)
        # What has been dropped is in no clique, and a drop of more than w neighbours is none.
        three = apart(clique(3), clique(3))
        self.assertIs(refuses_width(three, 2, [("drop", 0, (1, 2))], [3, 4, 5]), False)
        self.assertIs(refuses_width(three, 1, [("drop", 0, (1, 2))], [3, 4, 5]), False)
        self.assertIs(refuses_width(three, 1, [], [3, 4, 5]), True)
        self.assertIs(refuses_width(apart(Graph(1, []), clique(3)), 1, [("drop", 0, ())], [1, 2, 3]), True)
        self.assertIs(refuses_width(Graph(2, [(0, 1)]), 0, [], [0, 1]), True)
        self.assertIs(refuses_width(Graph(2, [(0, 1)]), 1, [("drop", 0, (1,))], [0, 1]), False)
        self.assertIs(refuses_width(clique(3), 1, [], [0, 1, 2]), True)

    def test_never_where_the_width_is_small(self):
        source = random.Random(6)
        refused = 0
        for graph, width in widths():
            for w in range(4):
                for _ in range(4):
                    rest, trace = Changing(graph), []
                    for _ in range(6):
                        steps = [("join",) + pair for pair in combinations(range(graph.nodes), 2)]
                        steps += [("drop", v, tuple(sorted(rest.near[v]))) for v in rest.near]
                        steps = [step for step in steps if rest.can(step, w)]
                        if steps:
                            trace.append(source.choice(steps))
                            rest.do(trace[-1])
                    for nodes in combinations(range(graph.nodes), w + 2):
                        right = all(u in rest.near and v in rest.near[u] for u, v in combinations(nodes, 2))
                        self.assertIs(refuses_width(graph, w, trace, list(nodes)), right)
                        if right:
                            self.assertGreater(width, w)
                            refused += 1
        self.assertGreater(refused, 100)

    def test_values_of_all_kinds(self):
        graph = two_sides(2, 3)
        trace, nodes = [("join", 0, 1)], [0, 1, 2]
        self.assertIs(refuses_width(graph, 1, trace, nodes), True)
        for value in wrong_values():
            for told in (value, [value], trace + [value], [("join", 0, value)], [("drop", 0, value)],
                         [("drop", value, ())],
                         [("join", value, 1)], [(value, 0, 1)], [("join", 0, 1, value)], [("drop", 2, (0, value))],
                         [("join", value, value)]):
                if repr(told) != repr(trace):
                    self.assertIs(refuses_width(graph, 1, told, nodes), False, told)
            self.assertIs(refuses_width(graph, 1, trace, value), repr(value) == repr(nodes), value)
            self.assertIs(refuses_width(graph, 1, value, value), False, value)
        for told in (tuple(trace), [["join", 0, 1]], [("JOIN", 0, 1)], [("join", False, True)], [("join", 0, True)],
                     [("join", 0, 1.0)], [("join", "0", "1")], [(b"join", 0, 1)], [("", 0, 1)], {("join", 0, 1): 0},
                     [("join", (0, 1))], ["join", 0, 1], [("join", -1, 1)], [("drop", 0, 1)], [("join", 0, (1,))],
                     [(None, 0, 1)], [("join", 0, None)], [("drop", None, (0, 1))]):
            self.assertIs(refuses_width(graph, 1, told, nodes), False, told)
        for told in ((0, 1, 2), [0, True, 2], [0, 1, 2.0], [0, 1, "2"], [0, 1, 5], [0, 1, 1, 2], {0, 1, 2},
                     [[0, 1, 2]]):
            self.assertIs(refuses_width(graph, 1, trace, told), False, told)
        ear = Graph(5, sorted(clique(4).edges + [(0, 4), (1, 4)]))
        self.assertIs(refuses_width(ear, 2, [("drop", 4, (0, 1))], [0, 1, 2, 3]), True)
        for beside in ((0.0, 1), (False, 1), (0, True), [0, 1], (1, 0), ("0", "1"), (0, 1, None), (0,), (0, 1, 1),
                       {0, 1}):
            self.assertIs(refuses_width(ear, 2, [("drop", 4, beside)], [0, 1, 2, 3]), False, beside)
        for v in (4.0, "4", True, None, (4,), -1, 5):
            self.assertIs(refuses_width(ear, 2, [("drop", v, (0, 1))], [0, 1, 2, 3]), False, v)
        # A value that is equal to everything is no word.
        equal = Equal()
        for word in (equal, [equal], (equal,), {"drop": 0}):
            self.assertIs(refuses_width(ear, 2, [(word, 4, (0, 1))], [0, 1, 2, 3]), False)
            self.assertIs(refuses_width(graph, 1, [(word, 0, 1)], nodes), False)
        self.assertIs(refuses_width(ear, 2, [("drop", 4, equal)], [0, 1, 2, 3]), False)
        self.assertIs(refuses_width(ear, 2, [equal], [0, 1, 2, 3]), False)


class LeftAsTheyWere(unittest.TestCase):
    def test_arguments(self):
        graph, whole = Graph(5, KITE.edges), ([[0, 1], [1, 2], [2, 3, 4]], [(0, 1), (1, 2)])
        order, cover, refuge = [4, 3, 2, 1, 0], [1, 2, 3], greatest_refuge(KITE, 2)
        positions = list(refuge)
        trace, nodes = [("drop", 0, (1,))], [2, 3, 4]
        kernel = width_kernel(graph, cover, 2)[0]
        before = (Graph(3, kernel[0].edges), list(kernel[1]), list(kernel[2]))
        small = ([[0, 1], [1, 2]], [(0, 1)])
        is_decomposition(graph, whole)
        width_of(graph, whole)
        eliminate(graph, order)
        is_refuge(graph, 2, refuge)
        refuses_width(graph, 1, trace, nodes)
        lift_decomposition(graph, kernel, small)
        best_decomposition(graph)
        greatest_refuge(graph, 2)
        self.assertEqual(whole, SPLIT)
        self.assertEqual((order, cover, refuge), ([4, 3, 2, 1, 0], [1, 2, 3], positions))
        self.assertEqual((trace, nodes, kernel), ([("drop", 0, (1,))], [2, 3, 4], before))
        self.assertEqual(small, ([[0, 1], [1, 2]], [(0, 1)]))
        self.assertEqual(graph, KITE)
        self.assertEqual([graph.neighbours(v) for v in range(5)], [KITE.neighbours(v) for v in range(5)])

    def test_lists_are_new(self):
        kernel = width_kernel(KITE, [1, 2, 3], 2)[0]
        small = ([[0, 1], [1, 2]], [(0, 1)])
        for call in (lambda: eliminate(KITE, [0, 1, 2, 3, 4]), lambda: eliminate(KITE, [0, 1, 2, 3, 4])[0],
                     lambda: best_decomposition(KITE), lambda: [greatest_refuge(KITE, 1)],
                     lambda: width_kernel(KITE, [1, 2, 3], 2)[0][1:], lambda: width_kernel(KITE, [1, 2, 3], 1)[1],
                     lambda: lift_decomposition(KITE, kernel, small),
                     lambda: lift_decomposition(KITE, kernel, small)[0]):
            before = call()
            for told in call():
                told.append(None)
            self.assertEqual(call(), before)
        alone = width_kernel(clique(3), [0, 1, 2], 2)[0]
        bags, links = [[0, 1, 2], [0]], [(0, 1)]
        told = lift_decomposition(clique(3), alone, (bags, links))
        self.assertEqual(told, (bags, links))
        for one in told + tuple(told[0]):
            self.assertFalse(any(one is other for other in (bags, links, *bags)))


if __name__ == "__main__":
    unittest.main()
