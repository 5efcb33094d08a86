"""certsums.margin: promises [10] and [11]."""

import itertools
import random
import unittest

from certsums.errors import ZeroPolynomial
from certsums.fraction import Fraction
from certsums.margin import free_from, roots_between, roots_from, settled_from
from certsums.poly import Poly

HUGE = 10 ** 400 - 1


def is_settled(p, start):
    coefs = p.shifted(start).coefs
    return coefs[0] != 0 and (all(c >= 0 for c in coefs) or all(c <= 0 for c in coefs))


def with_roots(roots):
    found = Poly([1])
    for root in roots:
        found = found * Poly([-root, 1])
    return found


class SettledTest(unittest.TestCase):
    def check_least(self, p, start):
        found = settled_from(p, start=start)
        self.assertIs(type(found), int)
        self.assertGreaterEqual(found, start)
        self.assertTrue(is_settled(p, found))
        self.assertTrue(found == start or not is_settled(p, found - 1))
        self.assertEqual(settled_from(p, start=start), found)
        return found

    def test_example(self):
        self.assertEqual(settled_from(Poly([6, -5, 1]), start=0), 4)

    def test_small_ones_against_the_definition(self):
        for coefs in itertools.product((-7, -1, 0, 1, 5), repeat=4):
            p = Poly(coefs, 3)
            if not p.is_zero:
                for start in [-9, -1, 0, 1, 6]:
                    expected = start
                    while not is_settled(p, expected):
                        expected += 1
                    self.assertEqual(settled_from(p, start=start), expected)

    def test_constants(self):
        for p in [Poly([5]), Poly([-5], 3)]:
            for start in [-HUGE, -1, 0, 7, HUGE]:
                self.assertEqual(settled_from(p, start=start), start)

    def test_start_at_before_and_behind_a_root(self):
        p = Poly([-5, 1])
        self.assertEqual([settled_from(p, start=s) for s in [-100, 4, 5, 6, 7, 100]], [6, 6, 6, 6, 7, 100])
        q = Poly([-11, 2])
        self.assertEqual([settled_from(q, start=s) for s in [-100, 5, 6, 7]], [6, 6, 6, 7])

    def test_coefficients_at_most_0(self):
        self.assertEqual(settled_from(Poly([-3, -2, -1]), start=0), 0)
        self.assertEqual(settled_from(Poly([6, -5, 1]).scaled(Fraction(-1, 7)), start=0), 4)
        self.assertEqual(settled_from(Poly([0, -1]), start=0), 1)

    def test_without_real_roots(self):
        # x ** 2 - 6 x + 10 has no root, but a coefficient is negative before the vertex.
        self.assertEqual(settled_from(Poly([10, -6, 1]), start=0), 3)
        self.assertEqual(settled_from(Poly([10, -6, 1]), start=-50), 3)

    def test_multiple_roots(self):
        self.assertEqual(settled_from(with_roots([7] * 6), start=-3), 8)
        self.assertEqual(settled_from(with_roots([7] * 6), start=7), 8)

    def test_random(self):
        source = random.Random(1)
        for _ in range(200):
            size = source.choice([3, 100, 10 ** 30])
            p = Poly([source.randint(-size, size) for _ in range(source.randint(1, 7))] + [source.randint(1, 9)])
            self.check_least(p, source.choice([-10 ** 12, -50, 0, 3, 1000]))

    def test_bounds(self):
        source = random.Random(2)
        self.check_least(Poly([source.randint(-HUGE, HUGE) for _ in range(40)] + [1], HUGE), -HUGE)
        self.check_least(Poly([source.randint(-9, 9) for _ in range(40)] + [-1]), 0)
        self.assertEqual(settled_from(Poly([-HUGE, 1]), start=-HUGE), HUGE + 1)
        roots = [source.randint(-10 ** 9, 10 ** 9) for _ in range(40)]
        self.assertEqual(self.check_least(with_roots(roots), -10 ** 9), max(roots) + 1)

    def test_zero(self):
        with self.assertRaises(ZeroPolynomial):
            settled_from(Poly([]), start=0)

    def test_argument_stays(self):
        p = Poly([6, -5, 1], 4)
        settled_from(p, start=-8)
        self.assertEqual((p.coefs, p.den), ((6, -5, 1), 4))


class RootsTest(unittest.TestCase):
    def test_example(self):
        self.assertEqual(roots_between(Poly([0, -1, 0, 1]), low=-5, high=0), [-1, 0])

    def test_small_ones_against_the_definition(self):
        for coefs in itertools.product((-6, -1, 0, 1, 2, 5), repeat=4):
            p = Poly(coefs, 5)
            if not p.is_zero:
                roots = [k for k in range(-7, 8) if p.at(k).is_zero]
                self.assertEqual(roots_between(p, low=-100, high=100), roots)
                self.assertEqual(roots_between(p, low=-1, high=2), [k for k in roots if -1 <= k <= 2])
                self.assertEqual(roots_from(p, start=0), [k for k in roots if k >= 0])
                self.assertEqual(free_from(p, start=-3), max([-3] + [k + 1 for k in roots]))

    def test_multiple_roots_are_named_once(self):
        p = with_roots([3, 3, 3, -2, -2, 0, 0, 0, 0])
        self.assertEqual(roots_between(p, low=-9, high=9), [-2, 0, 3])
        self.assertEqual(roots_from(p, start=-9), [-2, 0, 3])
        self.assertEqual(roots_from(Poly([-4, 1]).power(40), start=-10 ** 9), [4])

    def test_both_ends(self):
        p = with_roots([-4, 1, 9])
        self.assertEqual(roots_between(p, low=-4, high=9), [-4, 1, 9])
        self.assertEqual(roots_between(p, low=-3, high=8), [1])
        self.assertEqual(roots_between(p, low=1, high=1), [1])
        self.assertEqual(roots_between(p, low=2, high=8), [])
        self.assertEqual(roots_from(p, start=1), [1, 9])
        self.assertEqual(roots_from(p, start=2), [9])
        self.assertEqual(roots_from(p, start=10), [])

    def test_high_less_than_low(self):
        p = with_roots([-4, 1, 9])
        self.assertEqual(roots_between(p, low=9, high=-4), [])
        self.assertEqual(roots_between(p, low=1, high=0), [])

    def test_constants_and_no_roots(self):
        for p in [Poly([3]), Poly([-1], 7), Poly([1, 0, 1]), Poly([1, 2]), Poly([-2, 0, 1])]:
            self.assertEqual(roots_between(p, low=-10 ** 9, high=10 ** 9), [])
            self.assertEqual(roots_from(p, start=-10 ** 9), [])
            self.assertEqual(free_from(p, start=-7), -7)

    def test_roots_that_are_not_whole(self):
        p = with_roots([5, -6]) * Poly([-1, 2]) * Poly([7, 3]) * Poly([-3, 0, 1])
        self.assertEqual(roots_between(p, low=-100, high=100), [-6, 5])
        self.assertEqual(free_from(Poly([-7, 2]), start=0), 0)

    def test_large_roots_and_wide_ranges(self):
        roots = [-999999999, -10 ** 8, -10 ** 8 + 1, 10 ** 8 - 1, 10 ** 8, 10 ** 8 + 1, 999999999]
        p = with_roots(roots)
        self.assertEqual(roots_between(p, low=-10 ** 9, high=10 ** 9), roots)
        self.assertEqual(roots_between(p, low=-HUGE, high=HUGE), roots)
        self.assertEqual(roots_between(p, low=-10 ** 8, high=10 ** 8), roots[1:5])
        self.assertEqual(roots_from(p, start=-HUGE), roots)
        self.assertEqual(free_from(p, start=-HUGE), 10 ** 9)

    def test_roots_in_one_residue_class(self):
        # Modulo each small prime many of these roots fall together.
        step = 2 * 3 * 5 * 7 * 11 * 13 * 17
        roots = [k * step for k in range(-20, 20)]
        self.assertEqual(roots_from(with_roots(roots), start=-10 ** 8), roots)

    def test_bounds(self):
        source = random.Random(3)
        roots = sorted(set([source.randint(-10 ** 9 + 1, 10 ** 9 - 1) for _ in range(40)]))
        self.assertEqual(roots_between(with_roots(roots), low=-10 ** 9, high=10 ** 9), roots)
        p = Poly([source.randint(-HUGE, HUGE) for _ in range(39)] + [HUGE])
        self.assertEqual(roots_between(p * Poly([-123456789, 1]), low=-10 ** 9, high=10 ** 9), [123456789])
        self.assertEqual(roots_between(Poly([0] * 40 + [HUGE]), low=-5, high=5), [0])

    def test_free_from(self):
        p = with_roots([-4, 1, 9])
        self.assertEqual([free_from(p, start=s) for s in [-9, 1, 9, 10, 11, HUGE]], [10, 10, 10, 10, 11, HUGE])
        self.assertEqual(free_from(with_roots([-4, -3]), start=-2), -2)
        self.assertEqual(free_from(with_roots([-4, -3]), start=-3), -2)

    def test_zero(self):
        for call in [lambda: roots_between(Poly([]), low=0, high=3), lambda: roots_between(Poly([]), low=3, high=0),
                     lambda: roots_from(Poly([0, 0]), start=0), lambda: free_from(Poly([]), start=0)]:
            with self.assertRaises(ZeroPolynomial):
                call()

    def test_results_are_new_lists(self):
        p = with_roots([1, 2, 3])
        found = roots_between(p, low=0, high=9)
        found.clear()
        self.assertEqual(roots_between(p, low=0, high=9), [1, 2, 3])
        found = roots_from(p, start=2)
        found.append(7)
        self.assertEqual(roots_from(p, start=2), [2, 3])
        self.assertEqual(p, with_roots([1, 2, 3]))


if __name__ == "__main__":
    unittest.main()
