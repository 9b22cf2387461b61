"""Families of small sets: hitting sets, sunflowers and the kernels that they make."""

from math import factorial

from cherrystone.checks import is_number
from cherrystone.choices import least_hitting_mask
from cherrystone.errors import BadArgument, BadFamily, TooLarge
from cherrystone.masks import count_of, full_mask, mask_of, nodes_of

MOST_SIZE = 40
MOST_SETS = 300
MOST_IN_SET = 8
MOST_PARAMETER = 40
MOST_FOR_LEAST = 14


class Family:
    """A family with the elements 0 to size - 1 and an ascending list of sets."""

    def __init__(self, size, sets):
        if not is_number(size, 0, MOST_SIZE):
            raise BadFamily("the number of elements is not an integer from 0 to 40")
        if not isinstance(sets, list) or len(sets) > MOST_SETS or not all([is_set(size, one) for one in sets]):
            raise BadFamily("the sets are not a list of at most 300 ascending tuples of at most 8 elements")
        if not all([one < two for one, two in zip(sets, sets[1:])]):
            raise BadFamily("the sets do not ascend")
        self.size = size
        self.sets = list(sets)
        # masks[k] is the mask of the set with the index k.
        self.masks = [mask_of(one) for one in sets]

    def __eq__(self, other):
        return isinstance(other, Family) and self.size == other.size and self.sets == other.sets


def ascend(values, many):
    """Whether all these values are integers from 0 to many - 1 that ascend."""
    if not all([is_number(value, 0, many - 1) for value in values]):
        return False
    return all([one < two for one, two in zip(values, values[1:])])


def is_set(size, value):
    """Whether this is an ascending tuple of at most 8 of so many elements."""
    return isinstance(value, tuple) and len(value) <= MOST_IN_SET and ascend(value, size)


def hits(family, chosen):
    """Whether this is a hitting set of the family."""
    if not isinstance(chosen, list) or not ascend(chosen, family.size):
        return False
    mask = mask_of(chosen)
    return all([mask & one != 0 for one in family.masks])


def is_sunflower(family, core, petals):
    """Whether these are the core and the petals of a sunflower of the family."""
    if not is_set(family.size, core) or not isinstance(petals, list) or len(petals) < 2:
        return False
    if not ascend(petals, len(family.sets)):
        return False
    masks = [family.masks[k] for k in petals]
    common = mask_of(core)
    return all([one & two == common for at, one in enumerate(masks) for two in masks[:at]])


def apart(family, indexes, core):
    """Those of the indexes, from the first on, whose sets have no element in common but those of the core."""
    petals = []
    met = 0
    for k in indexes:
        others = family.masks[k] & ~core
        if not others & met:
            petals.append(k)
            met |= others
    return petals


def commonest(family, indexes, core):
    """The element outside of the core that most of the sets contain."""
    counts = [0] * family.size
    for k in indexes:
        for v in nodes_of(family.masks[k] & ~core):
            counts[v] += 1
    return counts.index(max(counts))


def sunflower_among(family, indexes, p):
    """A sunflower with p petals among sets of one size, more than point 16 lets be without one."""
    core = 0
    petals = apart(family, indexes, core)
    while len(petals) < p:
        # The elements of the petals meet all sets, so one of them is in so many that point 16 tells of these again.
        core |= 1 << commonest(family, indexes, core)
        indexes = [k for k in indexes if family.masks[k] & core == core]
        petals = apart(family, indexes, core)
    return tuple(nodes_of(core)), petals[:p]


def sunflower(family, p):
    """(core, petals) of a sunflower with p petals, or None if the family is too small to be sure of one."""
    if not is_number(p, 2, MOST_PARAMETER + 1):
        raise BadArgument("the number of petals is not an integer from 2 to 41")
    for d in range(1, 9):
        indexes = [k for k, one in enumerate(family.sets) if len(one) == d]
        if len(indexes) > factorial(d) * (p - 1) ** d:
            return sunflower_among(family, indexes, p)
    return None


def hitting_kernel(family, k):
    """The kernel for hitting sets with at most k elements: a family."""
    if not is_number(k, 0, MOST_PARAMETER):
        raise BadArgument("the parameter is not an integer from 0 to 40")
    if k == 0:
        return Family(family.size, [()] if family.sets else [])
    kernel = Family(family.size, family.sets)
    found = sunflower(kernel, k + 1)
    while found is not None:
        core, petals = found
        if not core:
            return Family(family.size, [()])
        # At most k elements hit the k + 1 petals only by an element of the core, which hits all of them.
        others = [one for at, one in enumerate(kernel.sets) if at not in petals]
        kernel = Family(family.size, sorted(set(others + [core])))
        found = sunflower(kernel, k + 1)
    return kernel


def missed_set(masks, chosen):
    """The first of the masks without a chosen element, 0 if there is none."""
    left = [mask for mask in masks if not mask & chosen]
    return left[0] if left else 0


def least_hitting_set(family):
    """A hitting set with as few elements as possible, or None if a set is empty."""
    if 0 in family.masks:
        return None
    if family.size > MOST_FOR_LEAST:
        raise TooLarge("the family has more than 14 elements")
    # Small sets first: they leave few elements to choose from.
    masks = sorted(family.masks, key=count_of)
    return nodes_of(least_hitting_mask(lambda chosen: missed_set(masks, chosen), 0, 0, full_mask(family.size)))
