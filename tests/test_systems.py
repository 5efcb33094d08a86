"""certsums.systems: promises [14] to [16], and [2] for what is passed in and returned."""

import itertools
import random
import unittest

from certsums.fraction import Fraction
from certsums.matrix import apply, combine, dot, identity, multiply
from certsums.systems import kernel, solve

HUGE = 10 ** 400 - 1
# The program begins with remainders modulo this number, so multiples of it are an edge.
PRIME = 2 ** 31 - 1
ZERO = Fraction(0)


def vector(numbers):
    return [Fraction(number) for number in numbers]


def matrix(rows):
    return [vector(row) for row in rows]


def parts(rows):
    return [[(x.num, x.den) for x in row] for row in rows]


def random_matrix(source, height, width, size, den):
    return [[Fraction(source.randint(-size, size), source.randint(1, den)) for _ in range(width)]
            for _ in range(height)]


class SolveTest(unittest.TestCase):
    def check(self, rows, right, width):
        kept = parts(rows + [right])
        found = solve(rows, right, width)
        self.assertEqual(parts(rows + [right]), kept)
        self.assertEqual(solve(rows, right, width), found)
        self.assertIs(type(found), tuple)
        kind, x = found
        self.assertIs(type(x), list)
        self.assertTrue(all(isinstance(entry, Fraction) for entry in x))
        if kind == "solution":
            self.assertEqual(len(x), width)
            self.assertEqual(apply(rows, x), right)
        else:
            self.assertEqual(kind, "refuted")
            self.assertEqual(len(x), len(rows))
            self.assertEqual(combine(x, rows, width), [ZERO] * width)
            self.assertNotEqual(dot(x, right), ZERO)
        return kind

    def test_ordinary(self):
        self.assertEqual(solve(matrix([[1, 2], [3, 4]]), vector([5, 6]), 2), ("solution", [Fraction(-4), Fraction(9, 2)]))
        self.assertEqual(self.check(matrix([[1, 2], [2, 4]]), vector([1, 2]), 2), "solution")
        self.assertEqual(self.check(matrix([[1, 2], [2, 4]]), vector([1, 3]), 2), "refuted")
        self.assertEqual(self.check([[Fraction(1, 2), Fraction(-1, 3)]], [Fraction(5, 7)], 2), "solution")

    def test_all_small_systems(self):
        kinds = []
        for entries in itertools.product((-1, 0, 2), repeat=6):
            kinds.append(self.check(matrix([entries[0:2], entries[2:4]]), vector(entries[4:6]), 2))
        self.assertEqual(set(kinds), {"solution", "refuted"})

    def test_no_rows(self):
        for width in [0, 1, 4]:
            self.assertEqual(self.check([], [], width), "solution")

    def test_width_0(self):
        self.assertEqual(solve([[], []], vector([0, 0]), 0), ("solution", []))
        self.assertEqual(self.check([[], []], vector([0, 3]), 0), "refuted")
        self.assertEqual(solve([], [], 0), ("solution", []))

    def test_zero_rows_and_columns(self):
        self.assertEqual(self.check(matrix([[0, 0], [0, 1]]), vector([0, 5]), 2), "solution")
        self.assertEqual(self.check(matrix([[0, 0], [0, 1]]), vector([1, 5]), 2), "refuted")
        self.assertEqual(self.check(matrix([[0], [0]]), vector([0, 0]), 1), "solution")

    def test_more_columns_than_rows_and_more_rows_than_columns(self):
        self.assertEqual(self.check(matrix([[1, 2, 3, 4]]), vector([7]), 4), "solution")
        self.assertEqual(self.check(matrix([[0, 0, 0, 4], [0, 0, 0, 5]]), vector([7, 8]), 4), "refuted")
        self.assertEqual(self.check(matrix([[1], [2], [3]]), vector([2, 4, 6]), 1), "solution")
        self.assertEqual(self.check(matrix([[1], [2], [3]]), vector([2, 4, 7]), 1), "refuted")

    def test_multiples_of_the_first_prime_number(self):
        rows = matrix([[PRIME, 0], [0, PRIME], [1, 1]])
        self.assertEqual(self.check(rows[:2], vector([1, 2]), 2), "solution")
        self.assertEqual(self.check(rows, [Fraction(1), Fraction(2), Fraction(3, PRIME)], 2), "solution")
        self.assertEqual(self.check(rows, vector([1, 2, 3]), 2), "refuted")
        self.assertEqual(self.check(matrix([[1, 1], [1, 1 + PRIME]]), vector([1, 2]), 2), "solution")
        self.assertEqual(self.check([[Fraction(1, PRIME), Fraction(1)]], vector([1]), 2), "solution")

    def test_solutions_that_look_small_modulo_powers_of_the_first_prime_number(self):
        for power in [1, 2, 8, 16]:
            for offset in [-1, 1]:
                self.assertEqual(solve([[Fraction(PRIME ** power + offset)]], [Fraction(-1)], 1),
                                 ("solution", [Fraction(-1, PRIME ** power + offset)]))
                rows = matrix([[PRIME ** power + offset, 1], [1, PRIME ** power - offset]])
                self.assertEqual(self.check(rows, vector([1, 2]), 2), "solution")

    def test_random(self):
        source = random.Random(1)
        kinds = []
        for _ in range(400):
            height, width = source.randint(0, 5), source.randint(0, 5)
            size = source.choice([1, 2, 10, 10 ** 30])
            rows = random_matrix(source, height, width, size, source.choice([1, 3]))
            kinds.append(self.check(rows, vector([source.randint(-size, size) for _ in range(height)]), width))
        self.assertGreater(min(kinds.count("solution"), kinds.count("refuted")), 50)

    def test_bounds(self):
        source = random.Random(2)
        rows = random_matrix(source, 24, 24, 9, 9)
        right = [Fraction(source.randint(-9, 9)) for _ in range(24)]
        self.assertEqual(self.check(rows, right, 24), "solution")
        dependent = rows[:23] + [[x + y for x, y in zip(rows[0], rows[1])]]
        self.assertEqual(self.check(dependent, right, 24), "refuted")
        self.assertEqual(self.check(dependent, right[:23] + [right[0] + right[1]], 24), "solution")
        large = random_matrix(source, 24, 24, HUGE, 1)
        kind, x = solve(large, right, 24)
        self.assertEqual((kind, apply(large, x)), ("solution", right))
        self.assertEqual(self.check(random_matrix(source, 5, 4, HUGE, HUGE), vector([1, 2, 3, 4, HUGE]), 4), "refuted")
        self.assertEqual(self.check(random_matrix(source, 4, 5, HUGE, HUGE), vector([1, 2, 3, HUGE]), 5), "solution")

    def test_more_than_the_bounds(self):
        source = random.Random(3)
        rows = random_matrix(source, 40, 40, 9, 1)
        self.assertEqual(self.check(rows, vector([1] * 40), 40), "solution")

    def test_results_may_be_changed(self):
        for right in [vector([5, 6, 11]), vector([5, 6, 7])]:
            rows = matrix([[1, 2], [3, 4], [4, 6]])
            first, second = solve(rows, right, 2), solve(rows, right, 2)
            first[1][0] = Fraction(99)
            first[1].pop()
            self.assertEqual(solve(rows, right, 2), second)


class KernelTest(unittest.TestCase):
    def check(self, rows, width):
        kept = parts(rows)
        found = kernel(rows, width)
        self.assertEqual(parts(rows), kept)
        self.assertEqual(kernel(rows, width), found)
        self.assertIs(type(found), tuple)
        kind, x = found
        self.assertIs(type(x), list)
        self.assertEqual(len(x), width)
        if kind == "vector":
            self.assertEqual(apply(rows, x), [ZERO] * len(rows))
            self.assertNotEqual(x, [ZERO] * width)
        else:
            self.assertEqual(kind, "inverse")
            self.assertTrue(all(type(row) is list and len(row) == len(rows) for row in x))
            self.assertEqual(multiply(x, rows, width), identity(width))
        return kind

    def test_ordinary(self):
        half = Fraction(1, 2)
        self.assertEqual(kernel(matrix([[1, 2], [3, 4]]), 2),
                         ("inverse", [[Fraction(-2), Fraction(1)], [Fraction(3, 2), -half]]))
        self.assertEqual(self.check(matrix([[1, 2], [2, 4]]), 2), "vector")
        self.assertEqual(self.check([[half, Fraction(1, 3)], [Fraction(3), Fraction(2)]], 2), "vector")
        self.assertEqual(self.check(matrix([[1, 2], [2, 4], [0, 1]]), 2), "inverse")

    def test_all_small_matrices(self):
        kinds = [self.check(matrix([entries[0:2], entries[2:4], entries[4:6]]), 2)
                 for entries in itertools.product((-1, 0, 2), repeat=6)]
        self.assertEqual(set(kinds), {"vector", "inverse"})

    def test_no_rows(self):
        self.assertEqual(kernel([], 0), ("inverse", []))
        for width in [1, 2, 24]:
            self.assertEqual(self.check([], width), "vector")

    def test_width_0(self):
        self.assertEqual(kernel([[], [], []], 0), ("inverse", []))

    def test_more_columns_than_rows(self):
        source = random.Random(1)
        for width in range(2, 8):
            for height in range(1, width):
                self.assertEqual(self.check(random_matrix(source, height, width, 9, 9), width), "vector")

    def test_zero_columns(self):
        self.assertEqual(self.check(matrix([[0, 1], [0, 2]]), 2), "vector")
        self.assertEqual(self.check(matrix([[1, 0], [2, 0]]), 2), "vector")
        self.assertEqual(self.check(matrix([[0]]), 1), "vector")
        self.assertEqual(self.check(matrix([[0], [5]]), 1), "inverse")

    def test_multiples_of_the_first_prime_number(self):
        self.assertEqual(self.check(matrix([[PRIME, 0], [0, PRIME]]), 2), "inverse")
        self.assertEqual(self.check(matrix([[PRIME, 0], [0, 0]]), 2), "vector")
        self.assertEqual(self.check(matrix([[1, 1], [1, 1 + PRIME]]), 2), "inverse")
        self.assertEqual(self.check(matrix([[1, 1, 2], [1, 1 + PRIME, 2 + PRIME]]), 3), "vector")

    def test_random(self):
        source = random.Random(2)
        kinds = []
        for _ in range(400):
            height, width = source.randint(0, 5), source.randint(0, 5)
            kinds.append(self.check(random_matrix(source, height, width, source.choice([1, 2, 10 ** 30]), 3), width))
        self.assertGreater(min(kinds.count("vector"), kinds.count("inverse")), 50)

    def test_bounds(self):
        source = random.Random(3)
        rows = random_matrix(source, 24, 24, 9, 9)
        self.assertEqual(self.check(rows, 24), "inverse")
        self.assertEqual(self.check(rows[:23] + [[x + y for x, y in zip(rows[0], rows[1])]], 24), "vector")
        self.assertEqual(self.check(random_matrix(source, 23, 24, HUGE, 1), 24), "vector")
        self.assertEqual(self.check(random_matrix(source, 5, 4, HUGE, HUGE), 4), "inverse")
        self.assertEqual(self.check(random_matrix(source, 4, 5, HUGE, HUGE), 5), "vector")

    def test_results_may_be_changed(self):
        for rows in [matrix([[1, 2], [3, 4]]), matrix([[1, 2], [2, 4]])]:
            first, second = kernel(rows, 2), kernel(rows, 2)
            if first[0] == "inverse":
                first[1][0][0] = Fraction(99)
                first[1][1].clear()
            first[1].pop()
            self.assertEqual(kernel(rows, 2), second)

    def test_rows_of_the_inverse_are_separate(self):
        _, inverse = kernel(matrix([[1, 0], [0, 1], [0, 0]]), 2)
        inverse[0][2] = Fraction(5)
        self.assertEqual(inverse[1], vector([0, 1, 0]))


if __name__ == "__main__":
    unittest.main()
