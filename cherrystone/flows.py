"""Disjoint ways by augmenting, and the separator beside them that is farthest from their starts.

A node v is split into two halves: its entry v and its exit v + n. Links lead from each entry to
the exit of the same node, and from each exit to the entries of the neighbours; a link that a way
takes is turned round, so that a later walk can take it back. links[x] is the mask of the halves
to which a link leads from the half x.
"""

from cherrystone.masks import full_mask, mask_of, nodes_of, short_path


def turn(links, walk):
    """Changes the links: those along the walk are turned round."""
    for x, y in zip(walk, walk[1:]):
        links[x] -= 1 << y
        links[y] += 1 << x


def follow(links, v):
    """The way that begins with the node v."""
    many = len(links) // 2
    way = [v]
    onward = [v]
    while onward:
        onward = [w for w in range(many) if links[w] >> (way[-1] + many) & 1]
        way.extend(onward)
    return way


def far_separator(links, ends):
    """The nodes from whose exits, but not from whose entries, some end can still be reached."""
    many = len(links) // 2
    found = 0
    fresh = ends
    while fresh:
        found |= fresh
        fresh = mask_of([x for x in range(2 * many) if links[x] & found]) & ~found
    return [v for v in range(many) if found >> (v + many) & 1 and not found >> v & 1]


def link_up(masks, starts, goals):
    """(ways, separator): greatest disjoint ways from the starts to the goals, and the farthest separator."""
    many = len(masks)
    ends = goals << many
    links = [1 << (v + many) for v in range(many)] + list(masks)
    # A shortest walk enters no start and leaves no goal, so a way has one start and one goal alone.
    walk = short_path(links, starts, ends, full_mask(2 * many))
    while walk is not None:
        turn(links, walk)
        walk = short_path(links, starts, ends, full_mask(2 * many))
    # Of all starts, just those with which a way begins have no link from their entry.
    begun = [v for v in nodes_of(starts) if not links[v]]
    return [follow(links, v) for v in begun], far_separator(links, ends)
