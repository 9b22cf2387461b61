import random
import unittest
from itertools import combinations
from math import factorial

from cherrystone.errors import BadArgument, BadFamily, TooLarge
from cherrystone.hitting import Family, hits, hitting_kernel, is_sunflower, least_hitting_set, sunflower
from tests.samples import drawn_family, large_families, not_numbers, subsets, wrong_values

# Three petals around 0 and 1, one set apart, and the core itself.
FLOWER = Family(9, [(0, 1), (0, 1, 2), (0, 1, 3), (0, 1, 4, 5), (6, 7)])


def all_families(size, most):
    """All families of at most so many sets over so many elements."""
    sets = [tuple(chosen) for chosen in subsets(range(size))]
    for many in range(most + 1):
        for chosen in combinations(sorted(sets), many):
            yield Family(size, list(chosen))


def drawn_families():
    for seed in range(6):
        for size, many, sizes in ((5, 9, (1, 2, 3)), (7, 25, (2, 3)), (8, 60, (2, 3, 4)), (9, 90, (2, 3)),
                                  (9, 120, (3, 4)), (10, 40, (1, 2, 5)), (6, 30, (0, 1, 2, 3, 4, 5, 6))):
            yield drawn_family(size, many, sizes, seed)


def bounded(family, k):
    """Whether the family has at most d! k**d sets with exactly d elements, for each d from 1."""
    sizes = [len(one) for one in family.sets]
    return all(sizes.count(d) <= factorial(d) * k ** d for d in range(1, 9))


def hits_by_eye(family, chosen):
    return all(set(one) & set(chosen) for one in family.sets)


def hitting_sets(family, most):
    """All hitting sets with at most so many elements."""
    return [chosen for chosen in subsets(range(family.size)) if len(chosen) <= most and hits_by_eye(family, chosen)]


def sunflower_by_eye(family, core, petals):
    sets = [set(family.sets[k]) for k in petals]
    return len(sets) > 1 and all(one & two == set(core) for one, two in combinations(sets, 2))


class Families(unittest.TestCase):
    def test_fields(self):
        for size, sets in ((0, []), (0, [()]), (1, [(), (0,)]), (3, [(0,), (0, 1), (0, 1, 2), (0, 2), (1,)]),
                           (40, [(39,)]), (8, [tuple(range(8))]), (40, [tuple(range(32, 40))])):
            family = Family(size, sets)
            self.assertEqual((family.size, family.sets), (size, sets))
            self.assertIs(type(family.size), int)
            self.assertIs(type(family.sets), list)
        family = Family(size=2, sets=[(0, 1)])
        self.assertEqual(family.sets, [(0, 1)])

    def test_sets_are_a_list_of_its_own(self):
        sets = [(0, 1), (2,)]
        family = Family(3, sets)
        self.assertIsNot(family.sets, sets)
        sets.append((2, 3))
        sets[0] = None
        self.assertEqual(family.sets, [(0, 1), (2,)])

    def test_equality(self):
        self.assertTrue(Family(3, [(0,), (1, 2)]) == Family(3, [(0,), (1, 2)]))
        self.assertFalse(Family(3, [(0,), (1, 2)]) != Family(3, [(0,), (1, 2)]))
        self.assertTrue(Family(0, []) == Family(0, []))
        self.assertFalse(Family(3, [(0,)]) == Family(4, [(0,)]))
        self.assertFalse(Family(3, [(0,)]) == Family(3, [(1,)]))
        self.assertFalse(Family(3, [(0,)]) == Family(3, [(0,), (1,)]))
        self.assertFalse(Family(0, []) == Family(0, [()]))
        for value in wrong_values() + [(3, [(0,)]), [(0,)], 3]:
            self.assertFalse(Family(3, [(0,)]) == value)
            self.assertTrue(Family(3, [(0,)]) != value)

    def test_numbers_of_sets(self):
        sets = sorted(combinations(range(40), 2))
        self.assertEqual(len(Family(40, sets[:300]).sets), 300)
        self.refused(40, sets[:301])
        self.refused(40, sets)

    def refused(self, size, sets):
        with self.assertRaises(BadFamily, msg=(size, sets)):
            Family(size, sets)

    def test_wrong_sizes(self):
        for size in not_numbers(0, 40) + [41, -1, 3.0]:
            self.refused(size, [])
            self.refused(size, None)

    def test_sets_out_of_order_or_twice(self):
        for sets in ([(1,), (0,)], [(0,), ()], [(0, 1), (0,)], [(0, 2), (0, 1)], [(1,), (0, 1)], [(0,), (0,)],
                     [(), ()], [(0, 1), (0, 1)], [(0,), (2,), (1,)]):
            self.refused(4, sets)
        self.assertEqual(len(Family(4, [(), (0,), (0, 1), (0, 1, 2), (0, 2), (1,), (1, 2)]).sets), 7)

    def test_what_are_no_sets_of_it(self):
        for one in ((1, 0), (0, 0), (0, 4), (4,), (-1,), (0, 40), (10 ** 30,), (True,), (0, True), (False,), (0.0,),
                    (0, 1.0), ("0",), "0", "01", b"0", [0], [0, 1], [], {0}, {0: 1}, frozenset({0}), None, 0, 1, True,
                    (None,), ((0,),), ([0],), (0, None), range(2), object(), (0, 2, 1), (0, 1, 1)):
            self.refused(4, [one])
            self.refused(4, [(0, 1), one])
            self.refused(4, [one, (3,)])
        self.refused(40, [tuple(range(9))])
        self.refused(40, [(0,), tuple(range(1, 10))])
        self.refused(0, [(0,)])

    def test_sets_that_are_no_list(self):
        for sets in ((), ((0,),), None, 0, True, "", "0", b"", {}, {(0,): 1}, {(0,)}, range(0), iter([]), object(), len,
                     1.5):
            self.refused(4, sets)


class Hits(unittest.TestCase):
    def test_by_example(self):
        for chosen, right in (([0, 6], True), ([1, 7], True), ([0, 1, 2, 3, 6], True), ([0], False), ([6], False),
                              ([], False), ([2, 3, 4, 6], False), ([0, 6, 8], True)):
            self.assertIs(hits(FLOWER, chosen), right)
        self.assertIs(hits(Family(0, []), []), True)
        self.assertIs(hits(Family(3, []), [1]), True)
        self.assertIs(hits(Family(3, [()]), [0, 1, 2]), False)
        self.assertIs(hits(Family(0, [()]), []), False)

    def test_each_list(self):
        for family in list(all_families(3, 3)) + list(drawn_families())[:14]:
            for chosen in subsets(range(family.size)):
                self.assertIs(hits(family, chosen), hits_by_eye(family, chosen))
                if len(chosen) > 1:
                    self.assertIs(hits(family, chosen[::-1]), False)

    def test_values_of_all_kinds(self):
        full = Family(1, [(0,)])
        for value in wrong_values() + [[0, 9], [0, 6, 9], [6, 0], [0, 0, 6], (0, 6), {0, 6}, [0, 6.0], [False, 6]]:
            self.assertIs(hits(FLOWER, value), False, value)
            if value != [0]:
                self.assertIs(hits(full, value), False, value)
                self.assertIs(hits(Family(0, []), value), False, value)


class Sunflowers(unittest.TestCase):
    def test_by_example(self):
        for core, petals, right in (((0, 1), [1, 2], True), ((0, 1), [1, 2, 3], True), ((0, 1), [0, 1, 2, 3], True),
                                    ((), [1, 4], True), ((), [0, 4], True), ((0,), [1, 2], False),
                                    ((0, 1, 2), [1, 2], False), ((), [1, 2], False), ((0, 1), [1, 2, 4], False),
                                    ((), [1, 2, 4], False), ((0, 1), [1], False), ((), [], False), ((), [4], False),
                                    ((6, 7), [4], False)):
            self.assertIs(is_sunflower(FLOWER, core, petals), right, (core, petals))

    def test_all_of_small_families(self):
        for family in list(all_families(2, 4)) + [drawn_family(4, 6, (1, 2, 3), seed) for seed in range(6)]:
            for core in subsets(range(family.size)):
                for petals in subsets(range(len(family.sets))):
                    right = sunflower_by_eye(family, core, petals)
                    self.assertIs(is_sunflower(family, tuple(core), petals), right)
                    if len(petals) > 1:
                        self.assertIs(is_sunflower(family, tuple(core), petals[::-1]), False)

    def test_values_of_all_kinds(self):
        for value in wrong_values():
            self.assertIs(is_sunflower(FLOWER, value, [1, 2]), value == (0, 1), value)
            self.assertIs(is_sunflower(FLOWER, (0, 1), value), False, value)
            self.assertIs(is_sunflower(FLOWER, value, value), False, value)
        for core in ([0, 1], (1, 0), (0, 1, 1), (0, 1, 9), (0, 1.0), (False, 1), {0, 1}, "01", ("0", "1")):
            self.assertIs(is_sunflower(FLOWER, core, [1, 2]), False, core)
        for petals in ((1, 2), [2, 1], [1, 1], [1, 2, 2], [1, 5], [-1, 1], [1, 2.0], [True, 2], [1, True], {1, 2}, "12",
                       [1, None], [[1], [2]], [(0, 1, 2), (0, 1, 3)], range(1, 3), iter([1, 2])):
            self.assertIs(is_sunflower(FLOWER, (0, 1), petals), False, petals)

    def right(self, family, p):
        """Checks that there is one where point 16 says so, and returns it."""
        told = sunflower(family, p)
        sizes = [len(one) for one in family.sets]
        if any(sizes.count(d) > factorial(d) * (p - 1) ** d for d in range(1, 9)):
            self.assertIsNotNone(told)
        if told is not None:
            self.assertIs(type(told), tuple)
            core, petals = told
            self.assertIs(type(core), tuple)
            self.assertEqual((list(core), petals), (sorted(core), sorted(set(petals))))
            self.assertEqual(len(petals), p)
            self.assertTrue(sunflower_by_eye(family, core, petals))
            self.assertIs(is_sunflower(family, core, petals), True)
        return told

    def test_each_number_of_petals(self):
        for family in list(drawn_families()) + list(large_families()):
            for p in (2, 3, 4, 5, 7, 12, 40, 41):
                self.right(family, p)

    def test_one_set_more_than_the_number_of_point_16(self):
        # Sets chosen in order have many elements in common, so that few of them are disjoint.
        for size, d, p in ((4, 1, 3), (40, 1, 40), (40, 2, 2), (10, 2, 3), (20, 2, 10), (40, 2, 12), (7, 3, 2),
                           (9, 3, 3), (40, 3, 3), (12, 3, 4), (7, 4, 2), (40, 4, 2), (9, 5, 2), (40, 5, 2)):
            many = factorial(d) * (p - 1) ** d + 1
            sets = sorted(combinations(range(size), d))
            self.assertIsNotNone(self.right(Family(size, sets[:many]), p), (size, d, p))
            self.assertIsNotNone(self.right(Family(size, sets[-many:]), p), (size, d, p))
            source = random.Random(size + d + p)
            for _ in range(5):
                self.assertIsNotNone(self.right(Family(size, sorted(source.sample(sets, many))), p), (size, d, p))

    def test_where_there_is_none(self):
        self.assertIsNone(sunflower(Family(0, []), 2))
        self.assertIsNone(sunflower(Family(0, [()]), 2))
        self.assertIsNone(sunflower(Family(8, [(), (0,)]), 3))
        self.assertIsNone(sunflower(Family(3, [(0, 1), (0, 2), (1, 2)]), 3))
        self.assertIsNone(sunflower(Family(40, [(v,) for v in range(40)]), 41))

    def test_wrong_numbers_of_petals(self):
        for p in not_numbers(2, 41) + [0, 1, 42]:
            for family in (FLOWER, Family(0, [])):
                with self.assertRaises(BadArgument, msg=p):
                    sunflower(family, p)


class Kernels(unittest.TestCase):
    def right(self, family, k):
        """Checks the size of the kernel, and returns it."""
        kernel = hitting_kernel(family, k)
        self.assertIs(type(kernel), Family)
        self.assertEqual(kernel, Family(kernel.size, kernel.sets))
        self.assertEqual(kernel.size, family.size)
        self.assertTrue(bounded(kernel, k))
        most = max([len(one) for one in family.sets], default=0)
        self.assertTrue(all(len(one) <= most for one in kernel.sets))
        self.assertLessEqual(len(kernel.sets), len(family.sets))
        return kernel

    def test_exactly_the_same_hitting_sets(self):
        for family in list(all_families(3, 3)) + list(drawn_families()):
            for k in range(5):
                kernel = self.right(family, k)
                self.assertEqual(hitting_sets(kernel, k), hitting_sets(family, k))

    def test_parameters_0_1_and_40(self):
        for family in list(drawn_families()) + list(large_families()):
            for k in (0, 1, 2, 3, 10, 39, 40):
                self.right(family, k)
            self.assertEqual(hitting_kernel(family, 40), family)
            self.assertEqual(hitting_kernel(family, 0), Family(family.size, [()] if family.sets else []))

    def test_by_example(self):
        self.assertEqual(hitting_kernel(Family(0, []), 0), Family(0, []))
        self.assertEqual(hitting_kernel(Family(0, []), 40), Family(0, []))
        self.assertEqual(hitting_kernel(Family(5, []), 1), Family(5, []))
        self.assertEqual(hitting_kernel(Family(3, [(0,), (1,)]), 2), Family(3, [(0,), (1,)]))
        # Two sets are one too many for k = 1; all of them contain 0.
        self.assertEqual(hitting_kernel(Family(4, [(0,), (1, 2)]), 1), Family(4, [(0,), (1, 2)]))
        kernel = hitting_kernel(Family(4, [(0, 1), (0, 2), (0, 3)]), 1)
        self.assertIn((0,), kernel.sets)
        self.assertNotIn(1, [chosen[0] for chosen in hitting_sets(kernel, 1)])
        # No hitting set has one element, so the kernel has none with one element, either.
        self.assertEqual(hitting_sets(hitting_kernel(Family(3, [(0,), (1,), (2,)]), 1), 1), [])

    def test_large_families_by_drawn_lists(self):
        source = random.Random(5)
        for family in large_families():
            for k in (1, 2, 3, 5):
                kernel = self.right(family, k)
                for _ in range(60):
                    chosen = sorted(source.sample(range(family.size), k))
                    self.assertEqual(hits_by_eye(kernel, chosen), hits_by_eye(family, chosen))

    def test_wrong_parameters(self):
        for k in not_numbers(0, 40):
            for family in (FLOWER, Family(0, [])):
                with self.assertRaises(BadArgument, msg=k):
                    hitting_kernel(family, k)


class LeastHittingSets(unittest.TestCase):
    def right(self, family):
        told = least_hitting_set(family)
        found = hitting_sets(family, family.size)
        if not found:
            self.assertIsNone(told)
            return
        self.assertEqual(told, sorted(set(told)))
        self.assertTrue(hits_by_eye(family, told))
        self.assertEqual(len(told), len(found[0]))

    def test_against_all_lists(self):
        for family in list(all_families(3, 3)) + list(drawn_families()):
            self.right(family)

    def test_no_sets_and_the_empty_set(self):
        for size in (0, 1, 14):
            self.assertEqual(least_hitting_set(Family(size, [])), [])
        for size in (0, 1, 14, 15, 40):
            self.assertIsNone(least_hitting_set(Family(size, [()])))
        self.assertIsNone(least_hitting_set(Family(40, [(), (0,), (38, 39)])))

    def test_14_elements(self):
        for sizes in ((1, 2), (2,), (3,), (4, 5), (8,), (2, 5, 8)):
            self.right(drawn_family(14, 60, sizes, 3))
        self.assertEqual(len(least_hitting_set(Family(14, sorted(combinations(range(14), 2))))), 13)
        self.assertEqual(least_hitting_set(Family(14, [(v,) for v in range(14)])), list(range(14)))

    def test_15_elements(self):
        for size in (15, 16, 40):
            for sets in ([], [(0,)], [(0, 1), (1, 2)]):
                with self.assertRaises(TooLarge):
                    least_hitting_set(Family(size, sets))


class LeftAsTheyWere(unittest.TestCase):
    def test_arguments(self):
        sets = [(0, 1), (0, 2), (0, 3), (4,)]
        family = Family(6, sets)
        chosen, petals = [0, 4], [0, 1]
        hits(family, chosen)
        is_sunflower(family, (0,), petals)
        sunflower(family, 2)
        least_hitting_set(family)
        for k in (0, 1, 2):
            self.assertIsNot(hitting_kernel(family, k).sets, family.sets)
        self.assertEqual(family, Family(6, [(0, 1), (0, 2), (0, 3), (4,)]))
        self.assertEqual((sets, chosen, petals), ([(0, 1), (0, 2), (0, 3), (4,)], [0, 4], [0, 1]))

    def test_results_are_new(self):
        family = Family(6, [(0, 1), (0, 2), (0, 3), (4,)])
        least_hitting_set(family).append(9)
        sunflower(family, 2)[1].append(9)
        hitting_kernel(family, 5).sets.append(9)
        self.assertEqual(least_hitting_set(family), [0, 4])
        self.assertEqual(len(sunflower(family, 2)[1]), 2)
        self.assertEqual(hitting_kernel(family, 5), Family(6, [(0, 1), (0, 2), (0, 3), (4,)]))


if __name__ == "__main__":
    unittest.main()
