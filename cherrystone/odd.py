"""Odd sets, without which a graph has two colours, and what shows that there are no smaller ones."""

from itertools import combinations

from cherrystone.cycles import are_disjoint_cycles
from cherrystone.errors import BadArgument, TooLarge
from cherrystone.flows import link_up
from cherrystone.graphs import is_list, is_path, two_colours
from cherrystone.masks import around, full_mask, mask_of, nodes_of

MOST_TO_SHRINK = 5
MOST_FOR_LEAST = 13
GIVEN_UP = "-"
LETTERS = ("-", "0", "1")


def is_odd_set(graph, nodes):
    """Whether this is an odd set of the graph."""
    return is_list(graph, nodes) and two_colours(graph.without(nodes))[0] is not None


def are_odd_cycles(graph, cycles):
    """Whether this is a packing of odd cycles of the graph."""
    return are_disjoint_cycles(graph, cycles) and all([len(cycle) % 2 == 1 for cycle in cycles])


class Sides:
    """A graph without an odd set, and the sides that its colours give to the splits of the odd set."""

    def __init__(self, graph, nodes):
        self.graph = graph
        self.nodes = nodes
        self.outside = full_mask(graph.nodes) & ~mask_of(nodes)
        # No way of the graph without the odd set comes to its nodes.
        self.masks = [mask & self.outside for mask in graph.masks]
        colours, _ = two_colours(graph.without(nodes))
        zeros = [v for v, colour in zip(nodes_of(self.outside), colours) if colour == 0]
        # The mask of the nodes with the colour 0, and of those with the colour 1.
        self.coloured = [mask_of(zeros), self.outside & ~mask_of(zeros)]

    def is_right(self, split):
        """Whether no two adjacent nodes of the odd set have the same digit."""
        for digit in LETTERS[1:]:
            same = mask_of([v for v, letter in zip(self.nodes, split) if letter == digit])
            if [v for v in nodes_of(same) if self.graph.masks[v] & same]:
                return False
        return True

    def ends(self, split):
        """(A, B) of the split, as masks."""
        differing, equal = 0, 0
        for v, letter in zip(self.nodes, split):
            if letter != GIVEN_UP:
                near = self.graph.masks[v]
                differing |= near & self.coloured[1 - int(letter)]
                equal |= near & self.coloured[int(letter)]
        return differing, equal

    def splits(self):
        """All right splits in which not all nodes are given up, ascending."""
        found = [[]]
        for _ in self.nodes:
            found = [split + [letter] for split in found for letter in LETTERS]
        return [split for split in found if split.count(GIVEN_UP) < len(split) and self.is_right(split)]

    def are_ways(self, split, ways):
        """Whether these are as many disjoint ways for the split as nodes are not given up."""
        if not isinstance(ways, list) or len(ways) != len(split) - split.count(GIVEN_UP):
            return False
        first, second = self.ends(split)
        met = 0
        for way in ways:
            if not is_path(self.graph, way):
                return False
            mask = mask_of(way)
            if mask & (met | ~self.outside) or mask & first != 1 << way[0] or mask & second != 1 << way[-1]:
                return False
            met |= mask
        return True

    def is_row(self, split, row):
        """Whether this is a row for the split."""
        if not isinstance(row, tuple) or len(row) != 2:
            return False
        told, ways = row
        return isinstance(told, list) and told == split and self.are_ways(split, ways)


def is_small_odd_set(graph, nodes):
    """Whether this is an odd set with at most 5 nodes."""
    return is_odd_set(graph, nodes) and len(nodes) <= MOST_TO_SHRINK


def fewer_odd(graph, nodes):
    """("fewer", nodes) with an odd set with fewer nodes, or ("paper", rows) if there is none."""
    if not is_small_odd_set(graph, nodes):
        raise BadArgument("this is not an odd set with at most 5 nodes")
    sides = Sides(graph, nodes)
    rows = []
    for split in sides.splits():
        first, second = sides.ends(split)
        ways, separator = link_up(sides.masks, first, second)
        given_up = [v for v, letter in zip(nodes, split) if letter == GIVEN_UP]
        if len(given_up) + len(separator) < len(nodes):
            return "fewer", sorted(given_up + separator)
        rows.append((split, ways[:len(nodes) - len(given_up)]))
    return "paper", rows


def refuses_odd(graph, nodes, rows):
    """Whether the rows show that no odd set has fewer nodes than this one, which has at most 5."""
    if not is_small_odd_set(graph, nodes) or not isinstance(rows, list):
        return False
    sides = Sides(graph, nodes)
    splits = sides.splits()
    return len(rows) == len(splits) and all([sides.is_row(split, row) for split, row in zip(splits, rows)])


def have_two_colours(masks, allowed):
    """Whether the allowed nodes can be coloured with two colours so that adjacent ones differ."""
    coloured = [0, 0]
    colour = 0
    fresh = 0
    left = allowed
    while left:
        if not fresh:
            fresh = left & -left
        coloured[colour] |= fresh
        left -= fresh
        near = around(masks, fresh) & allowed
        if near & coloured[colour]:
            return False
        fresh = near & left
        colour = 1 - colour
    return True


def odd_set_of(graph, size):
    """An odd set with so many nodes, or None if there is none."""
    nodes = list(range(graph.nodes))
    for chosen in combinations(nodes, size):
        if have_two_colours(graph.masks, full_mask(graph.nodes) & ~mask_of(chosen)):
            return list(chosen)
    return None


def least_odd_set(graph):
    """An odd set with the least number of nodes."""
    if graph.nodes > MOST_FOR_LEAST:
        raise TooLarge("the graph has more than 13 nodes")
    size = 0
    found = odd_set_of(graph, size)
    while found is None:
        size += 1
        found = odd_set_of(graph, size)
    return found
