"""Least sets that have a node in common with all sets of some kind, by trying the nodes of one that is missed."""

from cherrystone.masks import count_of, nodes_of


def least_hitting_mask(missed_by, chosen, barred, best):
    """The mask of a least set with all chosen nodes, no barred one, and a node of each set of the kind; or best.

    missed_by(chosen) is the mask of a set of the kind without a chosen node, or 0 if there is none. best is
    returned unless there is a set with fewer nodes.
    """
    missed = missed_by(chosen)
    if count_of(chosen) + min(missed, 1) >= count_of(best):
        return best
    if not missed:
        return chosen
    for v in nodes_of(missed & ~barred):
        best = least_hitting_mask(missed_by, chosen | 1 << v, barred, best)
        # Each set with v has been tried, so the sets that are left to try are without it.
        barred |= 1 << v
    return best
