"""The desk: one graph, and lines of words that ask about it and change it."""

from cherrystone.clusters import least_clusters
from cherrystone.colourful import longest_path, path_or_paper
from cherrystone.covers import is_cover, least_cover
from cherrystone.cycles import least_meeting, meets_cycles
from cherrystone.errors import BadLine, BadText, TooLarge
from cherrystone.graphs import components, format_graph, is_list, parse_graph
from cherrystone.matching import greatest_matching
from cherrystone.odd import is_odd_set, least_odd_set
from cherrystone.reductions import cycle_graph, is_clique, is_dominating, is_independent
from cherrystone.widths import best_decomposition, width_of

MOST_DIGITS = 9
MOST_COVERED = 40
MOST_ON_PATH = 7
TOO_LARGE = "too large"


def count_components(graph):
    """The number of components."""
    return len(components(graph))


def count_matching(graph):
    """The number of edges of a greatest matching."""
    matching, _ = greatest_matching(graph)
    return len(matching)


def count_cover(graph):
    """The number of nodes of a least cover."""
    return len(least_cover(graph))


def count_meeting(graph):
    """The number of nodes of a least meeting set."""
    return len(least_meeting(graph))


def count_clusters(graph):
    """The least cost of a clustering."""
    spent, _ = least_clusters(graph)
    return spent


def count_path(graph):
    """The number of nodes of a longest path."""
    return len(longest_path(graph))


def count_width(graph):
    """The width."""
    return width_of(graph, best_decomposition(graph))


def count_odd(graph):
    """The number of nodes of a least odd set."""
    return len(least_odd_set(graph))


COUNTS = {
    "components": count_components,
    "matching": count_matching,
    "cover": count_cover,
    "meeting": count_meeting,
    "clusters": count_clusters,
    "path": count_path,
    "width": count_width,
    "odd": count_odd,
}


def passes(graph, word, nodes):
    """Whether the node list is what the word tells."""
    if word == "cover":
        return is_cover(graph, nodes)
    if word == "meeting":
        return meets_cycles(graph, nodes)
    if word == "odd":
        return is_odd_set(graph, nodes)
    if word == "independent":
        return is_independent(graph, nodes)
    if word == "clique":
        return is_clique(graph, nodes)
    if word == "dominating":
        return is_dominating(graph, nodes)
    raise BadLine("this is no word for a test")


def read_number(word):
    """The integer that the word tells."""
    # Other digits than 0 to 9 are digits for Python, too.
    if not word.isascii() or not word.isdigit() or len(word) > MOST_DIGITS:
        raise BadLine("this is not an integer of at most 9 digits")
    if str(int(word)) != word:
        raise BadLine("the integer has leading zeros")
    return int(word)


def read_list(graph, word):
    """The node list of the graph that the word tells."""
    nodes = [] if word == "-" else [read_number(part) for part in word.split(",")]
    if not is_list(graph, nodes):
        raise BadLine("this is not a node list of the graph")
    return nodes


def read_graph(text):
    """The graph of a textual form."""
    try:
        return parse_graph(text)
    except BadText:
        raise BadLine("this is not the textual form of a graph") from None


def yes_or_no(holds):
    """The answer to a question."""
    return "yes" if holds else "no"


def within(graph, word, number):
    """The answer to a line that asks whether there is a small cover, or a path with so many nodes."""
    k = read_number(number)
    if word == "cover" and k <= MOST_COVERED:
        return yes_or_no(len(least_cover(graph)) <= k)
    if word == "path" and 1 <= k <= MOST_ON_PATH:
        found, _ = path_or_paper(graph, k)
        return yes_or_no(found == "path")
    raise BadLine("this is no word for what is within a number, or the number is out of its bounds")


def answer(graph, words):
    """The answer to the words of a line that leaves the graph as it is."""
    if words == ["show"]:
        return format_graph(graph)
    if len(words) == 2 and words[0] == "count" and words[1] in COUNTS:
        count = COUNTS[words[1]]
        return str(count(graph))
    if len(words) == 3 and words[0] == "test":
        return yes_or_no(passes(graph, words[1], read_list(graph, words[2])))
    if len(words) == 3 and words[0] == "within":
        return within(graph, words[1], words[2])
    raise BadLine("this is no line for the desk")


class Desk:
    """A desk that keeps one graph, none at first."""

    def __init__(self):
        self.graph = None

    def do(self, line):
        """The answer to a line; BadLine for what is none, which changes nothing."""
        if not isinstance(line, str):
            raise BadLine("a line is a text")
        if line.startswith("graph "):
            self.graph = read_graph(line.removeprefix("graph "))
            return "ok"
        if self.graph is None:
            raise BadLine("there is no graph yet")
        try:
            return self.done(line.split(" "))
        except TooLarge:
            return TOO_LARGE

    def done(self, words):
        """The answer to the words of a line about the graph."""
        if words == ["complement"]:
            self.graph = self.graph.complement()
            return "ok"
        if words == ["cycles"]:
            self.graph = cycle_graph(self.graph)
            return "ok"
        return answer(self.graph, words)
