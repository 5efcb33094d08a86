"""certsums.binomialsum: promise [28]."""

import math
import random
import unittest

from certsums.binomialsum import BinomialSum
from certsums.errors import InvalidSum
from certsums.fraction import Fraction, sum_of
from certsums.poly import Poly
from certsums.poly2 import Poly2

HUGE = 10 ** 400 - 1
ONE = Poly2([Poly([1])])
ZERO = Poly2([])


def binomial_sum(weight=ONE, base=Fraction(1), choose=1, rise=0, central=0):
    return BinomialSum(weight, base, choose=choose, rise=rise, central=central)


def summand_by_definition(s, n, k):
    count = math.comb(n, k) ** s.choose * math.comb(n + k, k) ** s.rise * math.comb(2 * k, k) ** s.central
    return s.weight.value_at(n, k) * s.base.power(k) * Fraction(count)


def random_sum(source, size):
    weight = Poly2([Poly([source.randint(-size, size) for _ in range(4)], source.randint(1, size)) for _ in range(3)]
                   + [Poly([0, 0, 0, 1])])
    return binomial_sum(weight, Fraction(source.choice([-1, 1]) * source.randint(1, size), source.randint(1, size)),
                        source.randint(1, 2), source.randint(0, 1), source.randint(0, 1))


class InvalidSumTest(unittest.TestCase):
    def refuse(self, **parts):
        with self.assertRaises(InvalidSum):
            binomial_sum(**parts)

    def test_zero_weight_and_zero_base(self):
        self.refuse(weight=ZERO)
        self.refuse(base=Fraction(0))
        self.refuse(weight=ZERO, base=Fraction(0))

    def test_numbers(self):
        for choose in [0, -1, -200]:
            self.refuse(choose=choose)
            self.refuse(choose=choose, rise=3, central=1)
        for number in [-1, -200]:
            self.refuse(rise=number)
            self.refuse(central=number)
        self.assertEqual(binomial_sum(choose=1, rise=0, central=0).factors, 1)

    def test_numbers_are_passed_by_keyword(self):
        with self.assertRaises(TypeError):
            BinomialSum(ONE, Fraction(1), 1, 0, 0)


class BinomialSumTest(unittest.TestCase):
    def test_example(self):
        self.assertEqual(binomial_sum(choose=2).value(3).num, 20)

    def test_fields(self):
        weight = Poly2.line(2, 3, 4)
        s = binomial_sum(weight, Fraction(-1, 2), 1, 2, 1)
        self.assertEqual((s.weight, s.base, s.choose, s.rise, s.central, s.factors), (weight, Fraction(-1, 2), 1, 2, 1, 4))

    def test_known_values(self):
        self.assertEqual([binomial_sum().value(n).num for n in range(5)], [1, 2, 4, 8, 16])
        self.assertEqual([binomial_sum(base=Fraction(-1)).value(n).num for n in range(4)], [1, 0, 0, 0])
        self.assertEqual([binomial_sum(choose=3).value(n).num for n in range(5)], [1, 2, 10, 56, 346])
        self.assertEqual([binomial_sum(choose=1, rise=1).value(n).num for n in range(5)], [1, 3, 13, 63, 321])
        self.assertEqual([binomial_sum(choose=2, rise=1).value(n).num for n in range(4)], [1, 3, 19, 147])
        self.assertEqual([binomial_sum(choose=2, rise=2).value(n).num for n in range(4)], [1, 5, 73, 1445])
        self.assertEqual([binomial_sum(choose=2, central=1).value(n).num for n in range(4)], [1, 3, 15, 93])
        self.assertEqual([binomial_sum(weight=Poly2.line(0, 1, 0)).value(n).num for n in range(5)], [0, 1, 4, 12, 32])
        self.assertEqual([binomial_sum(base=Fraction(1, 2)).value(n) for n in range(3)],
                         [Fraction(1), Fraction(3, 2), Fraction(9, 4)])

    def test_summand(self):
        source = random.Random(1)
        for _ in range(20):
            s = random_sum(source, 9)
            for n in range(6):
                for k in range(n + 1):
                    self.assertEqual(s.summand(n, k), summand_by_definition(s, n, k))
                for k in [-1, -2, -2999, n + 1, n + 2, 2999]:
                    self.assertEqual(s.summand(n, k), Fraction(0))

    def test_summand_is_0_where_only_the_weight_would_not_be(self):
        s = binomial_sum(weight=Poly2([Poly([5])]), base=Fraction(3), rise=2)
        self.assertEqual([s.summand(2, k).num for k in range(-2, 5)], [0, 0, 5, 270, 1620, 0, 0])

    def test_value_is_the_sum_of_the_summands(self):
        source = random.Random(2)
        for _ in range(30):
            s = random_sum(source, source.choice([2, 9, HUGE]))
            for n in [0, 1, 2, 7]:
                self.assertEqual(s.value(n), sum_of([summand_by_definition(s, n, k) for k in range(n + 1)]))

    def test_n_0(self):
        for s in [binomial_sum(weight=Poly2([Poly([7, 1], 3), Poly([5])]), choose=3, rise=1), binomial_sum(central=4)]:
            self.assertEqual(s.value(0), s.weight.value_at(0, 0))
            self.assertEqual(s.summand(0, 0), s.weight.value_at(0, 0))

    def test_bounds(self):
        self.assertEqual(binomial_sum().value(2999), Fraction(2 ** 2999))
        self.assertEqual(binomial_sum(choose=2).value(2999), Fraction(math.comb(5998, 2999)))
        self.assertEqual(binomial_sum(base=Fraction(HUGE, HUGE - 1)).value(100),
                         Fraction(2 * HUGE - 1, HUGE - 1).power(100))
        self.assertEqual(binomial_sum(choose=1, rise=1, central=2).summand(2999, 2999),
                         Fraction(math.comb(5998, 2999) ** 3))

    def test_equality(self):
        s = binomial_sum(Poly2.line(2, 3, 4), Fraction(-1, 2), 1, 2, 1)
        self.assertTrue(s == binomial_sum(Poly2.line(2, 3, 4), Fraction(2, -4), 1, 2, 1))
        others = [binomial_sum(Poly2.line(2, 3, 5), Fraction(-1, 2), 1, 2, 1),
                  binomial_sum(Poly2.line(2, 3, 4), Fraction(1, 2), 1, 2, 1),
                  binomial_sum(Poly2.line(2, 3, 4), Fraction(-1, 2), 2, 2, 1),
                  binomial_sum(Poly2.line(2, 3, 4), Fraction(-1, 2), 1, 1, 1),
                  binomial_sum(Poly2.line(2, 3, 4), Fraction(-1, 2), 1, 2, 0)]
        for other in others + [1, None, "sum", Poly2.line(2, 3, 4)]:
            self.assertIs(s == other, False)
        self.assertTrue(s != others[0])

    def test_nothing_is_changed(self):
        s = random_sum(random.Random(3), 9)
        kept = (s.weight, s.base, s.choose, s.rise, s.central)
        self.assertEqual([s.value(5), s.summand(5, 2)], [s.value(5), s.summand(5, 2)])
        self.assertEqual((s.weight, s.base, s.choose, s.rise, s.central), kept)


if __name__ == "__main__":
    unittest.main()
