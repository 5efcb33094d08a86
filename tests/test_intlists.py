"""certsums.intlists: the parts that no promise shows directly."""

import random
import unittest

from certsums import intlists


class IntListsTest(unittest.TestCase):
    def test_power_of(self):
        for base in [-3, 0, 1, 7]:
            self.assertEqual([intlists.power_of(base, e) for e in range(20)], [base ** e for e in range(20)])

    def test_inverse_modulo(self):
        for prime in [2, 3, 101, 2 ** 61 - 1, 7 ** 5]:
            for number in [1, -1, 5, 12345, -prime + 1, prime + 1]:
                if number % prime and (prime != 7 ** 5 or number % 7):
                    found = intlists.inverse_modulo(number, prime)
                    self.assertEqual(number * found % prime, 1)
                    self.assertTrue(0 <= found < prime)

    def test_coprime_modulo_only_says_what_is_certain(self):
        # x + 1 and x + 8 are equal modulo 7, and modulo 7 both 7 x + 1 and 14 x + 1 lose their leads.
        self.assertFalse(intlists.coprime_modulo([1, 1], [8, 1], 7))
        self.assertTrue(intlists.coprime_modulo([1, 1], [8, 1], 11))
        self.assertFalse(intlists.coprime_modulo([1, 7], [1, 14], 7))
        self.assertFalse(intlists.coprime_modulo([1, 1], [7, 7], 7))
        self.assertTrue(intlists.coprime_modulo([3], [7, 7, 1], 7))
        self.assertFalse(intlists.coprime_modulo([2, 3, 1], [3, 4, 1], 2 ** 61 - 1))

    def test_products_of_all_lengths(self):
        source = random.Random(11)
        for first in range(0, 20):
            for second in range(0, 20):
                for size in [1, 1000, 2 ** 70]:
                    p = [source.randint(-size, size) for _ in range(first)]
                    q = [source.randint(-size, size) for _ in range(second)]
                    found = intlists.multiplied(p, q)
                    expected = [0] * (first + second - 1 if first and second else 0)
                    for i, x in enumerate(p):
                        for j, y in enumerate(q):
                            expected[i + j] += x * y
                    self.assertEqual(found, expected)


if __name__ == "__main__":
    unittest.main()
