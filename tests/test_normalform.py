"""certsums.normalform: promise [24]."""

import random
import unittest

from certsums.distance import distances
from certsums.errors import ZeroPolynomial
from certsums.fraction import Fraction
from certsums.normalform import normal_form
from certsums.poly import Poly
from certsums.quotient import Quotient

HUGE = 10 ** 400 - 1
ONE = Poly([1])


def with_roots(roots):
    found = ONE
    for root in roots:
        found = found * Poly([-root, 1])
    return found


class NormalFormTest(unittest.TestCase):
    def check(self, ratio):
        kept = (ratio.num.coefs, ratio.num.den, ratio.den.coefs, ratio.den.den)
        found = normal_form(ratio)
        self.assertIs(type(found), tuple)
        a, b, c = found
        for p in found:
            self.assertTrue(isinstance(p, Poly) and not p.is_zero)
        self.assertEqual(Quotient(a * c.shifted(1), b * c), ratio)
        self.assertEqual(distances(a, b), [])
        self.assertEqual(normal_form(ratio), found)
        self.assertEqual((ratio.num.coefs, ratio.num.den, ratio.den.coefs, ratio.den.den), kept)
        return found

    def test_ratio_1(self):
        a, b, c = self.check(Quotient(ONE, ONE))
        self.assertEqual([a.degree, b.degree, c.degree], [0, 0, 0])

    def test_constants(self):
        for x in [Fraction(-1), Fraction(5, 3), Fraction(HUGE)]:
            self.assertEqual(self.check(Quotient.whole(Poly.constant(x)))[2].degree, 0)

    def test_one_distance(self):
        # (k + 3) / k is c(k + 1) / c(k) for c = k (k + 1) (k + 2).
        a, b, c = self.check(Quotient(Poly([3, 1]), Poly([0, 1])))
        self.assertEqual([a.degree, b.degree, c.degree], [0, 0, 3])

    def test_no_distance(self):
        a, b, c = self.check(Quotient(Poly([0, 1]), Poly([3, 1])))
        self.assertEqual([a.degree, b.degree, c.degree], [1, 1, 0])

    def test_multiple_roots_and_several_distances(self):
        self.check(Quotient(with_roots([-3, -3, -5]), with_roots([0, 0, 0, 1])))
        self.check(Quotient(with_roots([-3, -3]), with_roots([0])))
        self.check(Quotient(Poly([1, 0, 1]).shifted(4) * Poly([9, 2]), Poly([1, 0, 1]) * Poly([1, 2])))

    def test_random(self):
        source = random.Random(1)
        for _ in range(200):
            num, den = [with_roots([source.randint(-4, 4) for _ in range(source.randint(0, 4))])
                        .scaled(Fraction(source.choice([-2, 1, 3]), source.randint(1, 3))) for _ in range(2)]
            self.check(Quotient(num, den))

    def test_bounds(self):
        num, den = with_roots(range(-20, -14)), with_roots(range(6))
        self.check(Quotient(num.shifted(5), den.shifted(5)))
        self.check(Quotient(den, num))
        self.check(Quotient(with_roots([-20] * 6).scaled(Fraction(HUGE, 7)), with_roots([0] * 6)))
        p = Poly([HUGE, HUGE - 2, 3, HUGE])
        self.check(Quotient(p.shifted(6), p))

    def test_zero(self):
        with self.assertRaises(ZeroPolynomial):
            normal_form(Quotient(Poly([]), ONE))


if __name__ == "__main__":
    unittest.main()
