"""certsums.matrix: promise [14]."""

import random
import unittest

from certsums.fraction import Fraction
from certsums.matrix import apply, combine, dot, identity, multiply

HUGE = 10 ** 400 - 1


def vector(numbers):
    return [Fraction(number) for number in numbers]


def matrix(rows):
    return [vector(row) for row in rows]


def pairs(rows):
    return [[(x.num, x.den) for x in row] for row in rows]


class MatrixTest(unittest.TestCase):
    def test_dot(self):
        self.assertEqual(dot(vector([1, 2, 3]), vector([4, 5, -6])), Fraction(-4))
        self.assertEqual(dot([Fraction(1, 2), Fraction(1, 3)], [Fraction(1, 2), Fraction(9, 4)]), Fraction(1))
        self.assertEqual(dot([], []), Fraction(0))

    def test_apply(self):
        self.assertEqual(apply(matrix([[1, 2, 3], [0, -1, 5]]), vector([1, 10, 100])), vector([321, 490]))
        self.assertEqual(apply([], vector([1, 2])), [])
        self.assertEqual(apply([[], [], []], []), vector([0, 0, 0]))

    def test_combine(self):
        self.assertEqual(combine(vector([10, -1]), matrix([[1, 2, 3], [0, -1, 5]]), 3), vector([10, 21, 25]))
        self.assertEqual(combine([], [], 3), vector([0, 0, 0]))
        self.assertEqual(combine([], [], 0), [])
        self.assertEqual(combine(vector([1, 2]), [[], []], 0), [])

    def test_multiply(self):
        left, right = matrix([[1, 2], [3, 4], [5, 6]]), matrix([[1, 0, 2], [0, -1, 3]])
        self.assertEqual(multiply(left, right, 3), matrix([[1, -2, 8], [3, -4, 18], [5, -6, 28]]))
        self.assertEqual(multiply([], right, 3), [])
        self.assertEqual(multiply([[], []], [], 3), matrix([[0, 0, 0], [0, 0, 0]]))
        self.assertEqual(multiply(left, [[], []], 0), [[], [], []])
        self.assertEqual(multiply([], [], 0), [])

    def test_identity(self):
        self.assertEqual(identity(0), [])
        self.assertEqual(identity(1), matrix([[1]]))
        self.assertEqual(identity(3), matrix([[1, 0, 0], [0, 1, 0], [0, 0, 1]]))

    def test_they_agree(self):
        source = random.Random(1)
        for height, middle, width in [(1, 1, 1), (2, 3, 4), (4, 2, 5)]:
            left = [[Fraction(source.randint(-9, 9), source.randint(1, 9)) for _ in range(middle)] for _ in range(height)]
            right = [[Fraction(source.randint(-9, 9), source.randint(1, 9)) for _ in range(width)] for _ in range(middle)]
            found = multiply(left, right, width)
            self.assertEqual(found, [combine(row, right, width) for row in left])
            for j in range(width):
                column = [row[j] for row in right]
                self.assertEqual([row[j] for row in found], apply(left, column))
            self.assertEqual(multiply(left, identity(middle), middle), left)
            self.assertEqual(multiply(identity(height), left, middle), left)

    def test_bounds(self):
        source = random.Random(2)
        rows = [[Fraction(source.randint(-HUGE, HUGE)) for _ in range(24)] for _ in range(24)]
        self.assertEqual(multiply(rows, identity(24), 24), rows)
        found = multiply(rows, rows, 24)
        ones = vector([1] * 24)
        self.assertEqual(apply(found, ones), apply(rows, apply(rows, ones)))

    def test_arguments_stay_and_results_are_new(self):
        left, right, x = matrix([[1, 2], [3, 4]]), matrix([[5, 6], [7, 8]]), vector([1, -1])
        kept = [pairs(left), pairs(right), pairs([x])]
        calls = [lambda: apply(left, x), lambda: combine(x, left, 2), lambda: multiply(left, right, 2),
                 lambda: identity(2), lambda: multiply(identity(2), right, 2)]
        for call in calls:
            first, second = call(), call()
            self.assertEqual(first, second)
            if isinstance(first[0], list):
                first[0][0] = Fraction(99)
                first[1].clear()
            first.pop()
            self.assertEqual(call(), second)
        self.assertEqual([pairs(left), pairs(right), pairs([x])], kept)

    def test_rows_of_the_identity_are_separate(self):
        found = identity(2)
        found[0][1] = Fraction(5)
        self.assertEqual(found[1], vector([0, 1]))


if __name__ == "__main__":
    unittest.main()
