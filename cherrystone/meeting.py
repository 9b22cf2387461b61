"""Small sets of nodes without which a graph is a forest, by deciding node for node.

Each node is undecided, taken into the set, or kept out of it. The kept nodes never contain a cycle; parts are the
masks of the components that they form, and left is the mask of the undecided nodes.
"""

from cherrystone.masks import count_of, nodes_of


def trimmed(masks, kept, left):
    """The mask of the nodes of left that stay when those with less than two neighbours are removed until none is."""
    loose = left
    while loose:
        inside = kept | left
        loose = 0
        for v in nodes_of(left):
            if count_of(masks[v] & inside) < 2:
                loose |= 1 << v
        left -= loose
    return left


def too_many_edges(masks, kept, left, budget):
    """Whether more edges than a forest has stay, whichever nodes of left the budget takes."""
    inside = kept | left
    degrees = sorted([count_of(masks[v] & inside) for v in nodes_of(left)], reverse=True)
    taken = degrees[:budget]
    ends = sum(degrees) + sum([count_of(masks[v] & inside) for v in nodes_of(kept)])
    return ends // 2 - sum(taken) > max(0, count_of(inside) - len(taken) - 1)


def joined(masks, parts, v):
    """The parts when v is kept, too."""
    touched = 1 << v
    others = []
    for part in parts:
        if masks[v] & part:
            touched |= part
        else:
            others.append(part)
    return others + [touched]


def closes(masks, parts, v):
    """Whether v and some part contain a cycle."""
    return any([count_of(masks[v] & part) > 1 for part in parts])


def next_undecided(masks, parts, left, first):
    """A node of left that is in first, if there is one, otherwise one that touches the most parts."""
    nodes = nodes_of(left)
    ranks = [(first >> v & 1, len([part for part in parts if masks[v] & part]), count_of(masks[v])) for v in nodes]
    return nodes[ranks.index(max(ranks))]


def choice(masks, parts, left, first):
    """(v, takes, keeps): a node of left, and whether it is to be tried to take it, and to keep it."""
    inside = sum(parts) | left
    for v in nodes_of(left):
        if closes(masks, parts, v):
            return v, True, False
    for v in nodes_of(left):
        if count_of(masks[v] & inside) == 2:
            # In the place of v, another undecided node of the one cycle that v would close can be taken.
            return v, False, True
    return next_undecided(masks, parts, left, first), True, True


def small_meeting(masks, parts, left, budget, first):
    """The mask of at most so many nodes of left without which parts and left contain no cycle, or None.

    Nodes of first are decided before others, as far as none is decided without a choice.
    """
    kept = sum(parts)
    left = trimmed(masks, kept, left)
    if budget < 0 or too_many_edges(masks, kept, left, budget):
        return None
    if not left:
        return 0
    v, takes, keeps = choice(masks, parts, left, first)
    rest = left - (1 << v)
    if takes:
        found = small_meeting(masks, parts, rest, budget - 1, first)
        if found is not None:
            return found | 1 << v
    return small_meeting(masks, joined(masks, parts, v), rest, budget, first) if keeps else None
