"""certsums.polysystems: promise [17], and [2] for what is passed in and returned."""

import itertools
import random
import unittest
from unittest import mock

from certsums import polysystems
from certsums.division import common_divisor_of
from certsums.fraction import Fraction
from certsums.matrix import identity, multiply
from certsums.poly import Poly
from certsums.polysystems import poly_kernel

HUGE = 10 ** 400 - 1
PRIME = 2 ** 31 - 1
# A matrix is first looked at here; see certsums.polysystems.
PROBE = 1618033988
ZERO = Poly([])
ONE = Poly([1])
N = Poly([0, 1])


def random_poly(source, degree, size, den=1):
    return Poly([source.randint(-size, size) for _ in range(source.randint(0, degree + 1))], source.randint(1, den))


def full_matrix(source, height, width, degree, size, den=1):
    return [[Poly([source.randint(-size, size) for _ in range(degree + 1)], source.randint(1, den))
             for _ in range(width)] for _ in range(height)]


def parts(rows):
    return [[(p.coefs, p.den) for p in row] for row in rows]


class PolyKernelTest(unittest.TestCase):
    def check(self, rows, width):
        kept = parts(rows)
        found = poly_kernel(rows, width)
        self.assertEqual(parts(rows), kept)
        self.assertEqual(poly_kernel(rows, width), found)
        self.assertIs(type(found), tuple)
        if found[0] == "vector":
            self.assertEqual(len(found), 2)
            self.check_vector(rows, width, found[1])
        else:
            kind, n, inverse = found
            self.assertEqual(kind, "point")
            self.assertIs(type(n), int)
            self.assertGreaterEqual(n, 0)
            self.assertEqual((type(inverse), len(inverse)), (list, width))
            self.assertTrue(all(type(row) is list and len(row) == len(rows) for row in inverse))
            self.assertEqual(multiply(inverse, [[p.at(n) for p in row] for row in rows], width), identity(width))
        return found

    def check_vector(self, rows, width, v):
        self.assertEqual((type(v), len(v)), (list, width))
        for row in rows:
            total = ZERO
            for p, q in zip(row, v):
                total = total + p * q
            self.assertEqual(total, ZERO)
        self.assertEqual(common_divisor_of(v), ONE)

    def test_ordinary(self):
        # The kernel of (n, n + 1) has the vector (n + 1, -n) and its multiples by numbers.
        kind, v = self.check([[N, N + ONE]], 2)
        self.assertEqual(kind, "vector")
        self.assertEqual(v[0] * -N, v[1] * (N + ONE))
        self.assertEqual([p.degree for p in v], [1, 1])
        self.assertEqual(self.check([[N, ONE], [ONE, N]], 2)[0], "point")
        self.assertEqual(self.check([[N, ONE], [N * N, N]], 2)[0], "vector")
        self.assertEqual(self.check([[Poly([1, 2], 3), Poly([5])], [Poly([1, 2], 7), Poly([15], 7)]], 2)[0], "vector")

    def test_no_rows(self):
        self.assertEqual(self.check([], 0), ("point", 0, []))
        for width in [1, 2, 24]:
            self.assertEqual(self.check([], width)[0], "vector")

    def test_width_0(self):
        kind, n, inverse = self.check([[], []], 0)
        self.assertEqual((kind, inverse), ("point", []))

    def test_zero_polynomials(self):
        self.assertEqual(self.check([[ZERO]], 1), ("vector", [ONE]))
        self.assertEqual(self.check([[ZERO, ZERO], [ZERO, ZERO]], 2)[0], "vector")
        self.assertEqual(self.check([[ZERO, N], [N, ZERO]], 2)[0], "point")
        self.assertEqual(self.check([[N, ZERO], [ONE, ZERO]], 2)[0], "vector")
        self.assertEqual(self.check([[ZERO, N], [ZERO, ONE]], 2)[0], "vector")
        self.assertEqual(self.check([[ZERO, N], [ZERO, ZERO], [ONE, ZERO]], 2)[0], "point")

    def test_small_matrices(self):
        entries = (ZERO, ONE, N, Poly([-1, 1]))
        kinds = []
        for a, b, c, d in itertools.product(entries, repeat=4):
            found = self.check([[a, b], [c, d]], 2)
            kinds.append(found[0])
            self.assertEqual(found[0] == "vector", a * d == b * c)
        self.assertEqual(set(kinds), {"vector", "point"})

    def test_more_columns_than_rows(self):
        source = random.Random(1)
        for width in range(2, 7):
            for height in range(1, width):
                self.assertEqual(self.check(full_matrix(source, height, width, 2, 9), width)[0], "vector")

    def test_points_with_roots_are_left_out(self):
        p = ONE
        for root in range(6):
            p = p * Poly([-root, 1])
        kind, n, inverse = self.check([[p]], 1)
        self.assertEqual((kind, inverse), ("point", [[Fraction(1).over(p.at(n))]]))
        self.assertEqual(self.check([[p, ZERO], [ONE, Poly([-6, 1])]], 2)[0], "point")
        # At each number one of the rows is zero, but never both.
        self.assertEqual(self.check([[p], [p.shifted(-6)]], 1)[0], "point")

    def test_roots_where_the_program_looks_first(self):
        self.assertEqual(self.check([[Poly([-PROBE, 1])]], 1)[0], "point")
        self.assertEqual(self.check([[Poly([-PROBE, 1]), ONE], [Poly([0, -PROBE, 1]), N]], 2)[0], "vector")
        self.assertEqual(self.check([[N, Poly([-PROBE, 1])], [ONE, ONE]], 2)[0], "point")
        self.assertEqual(self.check([[Poly([PRIME])]], 1)[0], "point")
        self.assertEqual(self.check([[Poly([PRIME]), ONE], [Poly([0, PRIME]), N]], 2)[0], "vector")
        self.assertEqual(self.check([[Poly([1, PRIME]), ONE], [ONE, ONE]], 2)[0], "point")
        self.assertEqual(self.check([[Poly([0, PRIME, 1]), Poly([3, PRIME, PRIME])]], 2)[0], "vector")

    def test_common_factors_of_the_entries(self):
        common = Poly([3, 1]) * Poly([1, 0, 1])
        kind, v = self.check([[common * N, common * common, ZERO]], 3)
        self.assertEqual(kind, "vector")
        rows = [[common * N, common], [N * N, N]]
        self.assertEqual(max([p.degree for p in self.check(rows, 2)[1]]), 1)

    def test_random(self):
        source = random.Random(2)
        kinds = []
        for _ in range(300):
            height, width = source.randint(0, 4), source.randint(0, 4)
            rows = [[random_poly(source, 3, source.choice([1, 9, 10 ** 10]), 3) for _ in range(width)]
                    for _ in range(height)]
            kinds.append(self.check(rows, width)[0])
            if height > 0 and width > 1:
                first, second = random_poly(source, 2, 5), random_poly(source, 2, 5)
                dependent = [row[:-1] + [row[0] * first + row[width // 2 - 1] * second] for row in rows]
                self.assertEqual(self.check(dependent, width)[0], "vector")
        self.assertGreater(min(kinds.count("vector"), kinds.count("point")), 50)

    def test_bounds(self):
        source = random.Random(3)
        self.assertEqual(self.check(full_matrix(source, 24, 24, 2, 9), 24)[0], "point")
        self.assertEqual(self.check(full_matrix(source, 23, 24, 2, 9), 24)[0], "vector")
        self.assertEqual(self.check(full_matrix(source, 3, 4, 40, 9), 4)[0], "vector")
        self.assertEqual(self.check(full_matrix(source, 2, 2, 40, HUGE, HUGE), 2)[0], "point")
        self.assertEqual(self.check(full_matrix(source, 1, 24, 40, HUGE), 24)[0], "vector")
        self.assertEqual(self.check(full_matrix(source, 2, 3, 3, HUGE, HUGE), 3)[0], "vector")

    def test_results_may_be_changed(self):
        for rows in [[[N, ONE], [ONE, N]], [[N, ONE], [N * N, N]]]:
            first, second = poly_kernel(rows, 2), poly_kernel(rows, 2)
            if first[0] == "point":
                first[2][0][0] = Fraction(99)
                first[2][1].clear()
            else:
                first[1][0] = Poly([99])
            first[-1].pop()
            self.assertEqual(poly_kernel(rows, 2), second)

    def test_both_ways(self):
        # Determinants and power series find the same vectors up to a factor.
        source = random.Random(4)
        for size in range(1, 10):
            rows = full_matrix(source, size, size + 1, 2, 9)
            found = [self.check(rows, size + 1)[1]]
            for few in [-1, 9]:
                with mock.patch.object(polysystems, "FEW", few):
                    found.append(self.check(rows, size + 1)[1])
            for v in found[1:]:
                self.assertTrue(all(v[i] * found[0][-1] == found[0][i] * v[-1] for i in range(size)))


class SeriesTest(PolyKernelTest):
    """The same tests, but without determinants."""

    def setUp(self):
        patch = mock.patch.object(polysystems, "FEW", -1)
        patch.start()
        self.addCleanup(patch.stop)


if __name__ == "__main__":
    unittest.main()
