"""Counts and least lists that are worked out bag by bag over a decomposition.

A table tells something for each state that the nodes of one bag can be in; what lies below the bag has been
forgotten. A state is an integer: the mask of some nodes of the bag in its lowest 40 bits, of others in the next 40
bits, and so on. The rules say what becomes of a table when a node enters the bag or leaves it, and how the tables of
two parts that have this bag alone in common are merged.
"""

from cherrystone.checks import is_number
from cherrystone.errors import BadArgument, TooLarge
from cherrystone.masks import count_of, full_mask, mask_of, nodes_of
from cherrystone.widths import need_decomposition, width_of

MOST_WIDTH = 5
MOST_COLOURS = 4
SHIFT = 40
# No count of node lists has more bits, so that counts for several sizes can stand in one integer side by side.
COUNT_BITS = 41


class Counts:
    """Tables of the numbers of ways to come into a state."""

    def start(self):
        """The table of an empty bag with nothing below it."""
        return {0: 1}

    def merge(self, one, two):
        """The table of two parts together."""
        return {state: one[state] * two[state] for state in one if state in two}


class Independent(Counts):
    """The states are masks of nodes that are not adjacent; each count holds all sizes, a number of bits for each."""

    def enter(self, table, v, near):
        """The table once v, with these neighbours in the bag, has come into it."""
        fresh = dict(table)
        for state, many in table.items():
            if not state & near:
                fresh[state | 1 << v] = many
        return fresh

    def leave(self, table, v):
        """The table once v has left the bag; only now it counts for the size."""
        fresh = {}
        for state, many in table.items():
            rest = state & ~(1 << v)
            fresh[rest] = fresh.get(rest, 0) + (many if rest == state else many << COUNT_BITS)
        return fresh


class Colourings(Counts):
    """The states hold one mask for each of q colours."""

    def __init__(self, q):
        self.places = [SHIFT * colour for colour in range(q)]

    def enter(self, table, v, near):
        """The table once v, with these neighbours in the bag, has come into it."""
        fresh = {}
        for state, many in table.items():
            for place in self.places:
                if not state >> place & near:
                    fresh[state | 1 << (place + v)] = many
        return fresh

    def leave(self, table, v):
        """The table once v has left the bag."""
        marks = mask_of([place + v for place in self.places])
        fresh = {}
        for state, many in table.items():
            rest = state & ~marks
            fresh[rest] = fresh.get(rest, 0) + many
        return fresh


def keep_least(table, state, chosen):
    """Notes the mask of a list that leads to the state, unless as short a one is known."""
    if state not in table or count_of(chosen) < count_of(table[state]):
        table[state] = chosen


class Dominations:
    """The states hold the chosen nodes and the other ones that have a chosen neighbour; told is a shortest list."""

    def start(self):
        """The table of an empty bag with nothing below it."""
        return {0: 0}

    def enter(self, table, v, near):
        """The table once v, with these neighbours in the bag, has come into it."""
        fresh = {}
        for state, chosen in table.items():
            inside = state & full_mask(SHIFT)
            met = 1 << (v + SHIFT) if inside & near else 0
            keep_least(fresh, state | met, chosen)
            # The chosen node is a neighbour of all others near to it.
            met = (near & ~inside) << SHIFT
            keep_least(fresh, state | 1 << v | met, chosen | 1 << v)
        return fresh

    def leave(self, table, v):
        """The table once v has left the bag, which it does only with itself or a neighbour chosen."""
        marks = 1 << v | 1 << (v + SHIFT)
        fresh = {}
        for state, chosen in table.items():
            if state & marks:
                keep_least(fresh, state & ~marks, chosen)
        return fresh

    def merge(self, one, two):
        """The table of two parts together."""
        beside = {}
        for state, chosen in two.items():
            beside.setdefault(state & full_mask(SHIFT), []).append((state, chosen))
        fresh = {}
        for state, chosen in one.items():
            for other, more in beside.get(state & full_mask(SHIFT), []):
                keep_least(fresh, state | other, chosen | more)
        return fresh


def from_the_root(many, links):
    """(order, parents): the bags, each behind the one that links it to the bag 0, and these."""
    near = [[] for _ in range(many)]
    for i, j in links:
        near[i].append(j)
        near[j].append(i)
    parents = [None] * many
    order = [0]
    at = 0
    while at < len(order):
        i = order[at]
        for j in near[i]:
            if j != parents[i]:
                parents[j] = i
                order.append(j)
        at += 1
    return order, parents


def moved(graph, rules, table, bag, goal):
    """The table of the bag, taken over to another bag; both are masks."""
    for v in nodes_of(bag & ~goal):
        table = rules.leave(table, v)
    held = bag & goal
    for v in nodes_of(goal & ~bag):
        table = rules.enter(table, v, graph.masks[v] & held)
        held |= 1 << v
    return table


def worked_out(graph, decomposition, rules):
    """The table of the empty bag, once all nodes have been in the bags and left them."""
    bags, links = decomposition
    masks = [mask_of(bag) for bag in bags]
    order, parents = from_the_root(len(bags), links)
    tables = [None] * len(bags)
    for i in reversed(order):
        # A bag without others behind it has no table yet.
        if tables[i] is None:
            tables[i] = moved(graph, rules, rules.start(), 0, masks[i])
        up = parents[i]
        if up is not None:
            table = moved(graph, rules, tables[i], masks[i], masks[up])
            tables[up] = table if tables[up] is None else rules.merge(tables[up], table)
    return moved(graph, rules, tables[0], masks[0], 0)


def need_narrow(graph, decomposition):
    """Raises BadArgument for what is not a decomposition of the graph, and TooLarge for one that is too wide."""
    if width_of(graph, decomposition) > MOST_WIDTH:
        raise TooLarge("the decomposition has a width of more than 5")


def independent_counts(graph, decomposition):
    """For each size the number of node lists of this size, no two of whose nodes are adjacent."""
    need_narrow(graph, decomposition)
    counts = worked_out(graph, decomposition, Independent())[0]
    return [(counts >> (COUNT_BITS * size)) & full_mask(COUNT_BITS) for size in range(graph.nodes + 1)]


def colouring_count(graph, decomposition, q):
    """The number of lists of q colours in which those of adjacent nodes differ."""
    need_decomposition(graph, decomposition)
    if not is_number(q, 0, MOST_COLOURS):
        raise BadArgument("the number of colours is not an integer from 0 to 4")
    need_narrow(graph, decomposition)
    return worked_out(graph, decomposition, Colourings(q)).get(0, 0)


def least_domination(graph, decomposition):
    """A list with the least number of nodes, so that each node is in it or has a neighbour in it."""
    need_narrow(graph, decomposition)
    return nodes_of(worked_out(graph, decomposition, Dominations())[0])
