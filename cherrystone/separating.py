"""Separating families of colourings, and what a colouring separates. Sets of nodes are masks."""

from itertools import combinations
from math import factorial

from cherrystone.masks import count_of, full_mask, mask_of


def separated(colouring, k):
    """The sets of k nodes that the colouring gives k different colours."""
    sets = [0]
    for colour in range(k):
        nodes = [v for v, one in enumerate(colouring) if one == colour]
        sets = [one | 1 << v for one in sets for v in nodes]
    return sets


def weights_of(k):
    """What a set of k nodes is worth once j + 1 of its nodes, for each j, have different colours.

    This is k to the power of k - 1 times the share of the colourings of its other nodes that separate it.
    """
    weights = []
    power = 1
    for j in range(k):
        weights.append(factorial(k - 1 - j) * power)
        power *= k
    return weights


def good_colouring(n, k, missing):
    """(colouring, sets): a colouring, and those of the missing sets that it separates.

    These are at least as large a share of the missing ones as all colourings separate on the average: each node gets
    the colour with which the least is lost of what the sets are worth.
    """
    weights = weights_of(k)
    groups = [0] * k
    colouring = []
    kept = missing
    for v in range(n):
        losses = [0] * k
        for one in kept:
            if one >> v & 1:
                worth = weights[count_of(one & full_mask(v))]
                for colour in range(k):
                    if one & groups[colour]:
                        losses[colour] += worth
        best = losses.index(min(losses))
        kept = [one for one in kept if not one >> v & 1 or not one & groups[best]]
        groups[best] |= 1 << v
        colouring.append(best)
    return colouring, kept


def not_among(sets, found):
    """Those of the sets that were not found."""
    known = {one: True for one in found}
    return [one for one in sets if one not in known]


def greedy_family(n, k):
    """A separating family for n nodes and k colours."""
    nodes = list(range(n))
    missing = [mask_of(one) for one in combinations(nodes, k)]
    family = []
    while missing:
        colouring, found = good_colouring(n, k, missing)
        family.append(colouring)
        missing = not_among(missing, found)
    return family
