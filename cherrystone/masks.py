"""Sets of nodes as masks: integers in which the bit v is set if the node v is in the set.

Links between nodes are lists of masks: links[v] is the mask of the nodes that follow v.
"""


def mask_of(nodes):
    """The mask of the nodes of a list."""
    mask = 0
    for v in nodes:
        mask |= 1 << v
    return mask


def nodes_of(mask):
    """The nodes of a mask, as an ascending list."""
    nodes = []
    while mask:
        low = mask & -mask
        nodes.append(low.bit_length() - 1)
        mask -= low
    return nodes


def count_of(mask):
    """The number of nodes of a mask."""
    bits = f"{mask:b}"
    return bits.count("1")


def full_mask(many):
    """The mask of so many nodes, from 0."""
    return (1 << many) - 1


def around(links, mask):
    """The mask of all nodes that follow a node of the mask."""
    found = 0
    for v in nodes_of(mask):
        found |= links[v]
    return found


def reached(links, starts, allowed):
    """The mask of what can be reached from the starts, where only allowed nodes are entered."""
    found = starts & allowed
    fresh = found
    while fresh:
        fresh = around(links, fresh) & allowed & ~found
        found |= fresh
    return found


def pieces(links, allowed):
    """The masks of the components that the allowed nodes form, in the order of their first nodes."""
    found = []
    left = allowed
    while left:
        piece = reached(links, left & -left, left)
        found.append(piece)
        left -= piece
    return found


def short_path(links, starts, goals, allowed):
    """A shortest path of allowed nodes from some start to some goal, as a list, or None."""
    layers = [starts & allowed]
    seen = layers[0]
    while layers[-1] and not layers[-1] & goals:
        fresh = around(links, layers[-1]) & allowed & ~seen
        layers.append(fresh)
        seen |= fresh
    if not layers[-1]:
        return None
    path = [nodes_of(layers[-1] & goals)[0]]
    for layer in reversed(layers[:-1]):
        path.append([v for v in nodes_of(layer) if links[v] >> path[-1] & 1][0])
    return path[::-1]
