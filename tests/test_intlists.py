"""certsums.intlists: the parts that no promise shows directly."""

import random
import unittest
import unittest.mock

from certsums import intlists


class IntListsTest(unittest.TestCase):
    def test_power_of(self):
        for base in [-3, 0, 1, 7]:
            self.assertEqual([intlists.power_of(base, e) for e in range(20)], [base ** e for e in range(20)])

    def test_inverse_modulo(self):
        for prime in [2, 3, 101, 2 ** 61 - 1, 7 ** 5]:
            for number in [1, -1, 5, 12345, -prime + 1, prime + 1]:
                if number % prime and (prime != 7 ** 5 or number % 7):
                    found = intlists.inverse_modulo(number, prime)
                    self.assertEqual(number * found % prime, 1)
                    self.assertTrue(0 <= found < prime)

    def test_inverse_of_unit(self):
        for prime, exponent in [(2, 50), (3, 7), (2 ** 31 - 1, 9), (101, 1)]:
            modulus = prime ** exponent
            for number in [1, -1, 5 * prime + 1, 1 - prime, modulus - 1]:
                found = intlists.inverse_of_unit(number, prime, modulus)
                self.assertEqual(number * found % modulus, 1 % modulus)
                self.assertTrue(0 <= found < modulus)

    def test_next_prime(self):
        found = [2]
        while found[-1] < 50:
            found.append(intlists.next_prime(found[-1]))
        self.assertEqual(found, [2, 3, 5, 7, 11, 13, 17, 19, 23, 29, 31, 37, 41, 43, 47, 53])
        self.assertEqual([intlists.next_prime(n) for n in [-5, 0, 1, 24, 121, 2 ** 31 - 2, 2 ** 31 - 1]],
                         [2, 2, 2, 29, 127, 2 ** 31 - 1, 2147483659])

    def test_common_fractions(self):
        source = random.Random(12)
        for bits in [10, 100, 1000, 5000]:
            modulus = 3 ** (3 * bits)
            for _ in range(20):
                den = 3 * source.getrandbits(bits) + 1
                numerators = [source.getrandbits(bits) - source.getrandbits(bits) for _ in range(3)] + [1]
                residues = [n * pow(den, -1, modulus) % modulus for n in numerators]
                self.assertEqual(intlists.common_fractions(residues, modulus, 1), (numerators, den))
                found, multiple = intlists.common_fractions(residues, modulus, 2 * den)
                self.assertEqual((found, multiple), ([2 * n for n in numerators], 2 * den))
        self.assertEqual(intlists.common_fractions([], 101, 1), ([], 1))
        residues = [source.randrange(7 ** 200) for _ in range(3)]
        self.assertIsNone(intlists.common_fractions(residues, 7 ** 200, 1))

    def test_denominators_are_those_of_plain_division(self):
        source = random.Random(13)
        fibonacci = [0, 1]
        while fibonacci[-1].bit_length() < 4000:
            fibonacci.append(fibonacci[-1] + fibonacci[-2])
        cases = [(fibonacci[-2], fibonacci[-1])]
        for bits in [5, 200, 1001, 1500, 6000]:
            modulus = source.getrandbits(bits) | 1 << bits
            cases.append((source.randrange(modulus), modulus))
            cases.append((modulus // (source.getrandbits(bits // 5) + 2) + 1, modulus))
        for residue, modulus in cases:
            for bound in [0, 1, 1 << modulus.bit_length() // 2, 1 << modulus.bit_length() // 3, modulus // 7]:
                self.check_denominator(residue, modulus, bound)

    def test_denominators_with_few_digits_at_once(self):
        source = random.Random(15)
        for chunk in [2, 3, 5, 9]:
            with unittest.mock.patch.object(intlists, "CHUNK", chunk):
                for _ in range(4000):
                    modulus = source.getrandbits(6 * chunk + 8) + 1
                    residue = source.randrange(modulus)
                    self.check_denominator(residue, modulus, source.choice([0, 1, source.getrandbits(3 * chunk)]))

    def check_denominator(self, residue, modulus, bound):
        high, low, before, factor = modulus, residue, 0, 1
        while low > bound:
            before, factor = factor, before - high // low * factor
            high, low = low, high % low
        self.assertEqual(intlists._denominator(residue, modulus, bound), abs(factor))

    def test_division_modulo(self):
        source = random.Random(14)
        for _ in range(100):
            first = [source.randrange(101) for _ in range(source.randint(0, 6))]
            second = [source.randrange(101) for _ in range(source.randint(0, 4))] + [source.randint(1, 100)]
            kept = (list(first), list(second))
            quotient, rest = intlists.divided_modulo(first, second, 101)
            self.assertLess(len(rest), len(second))
            total = intlists.added(intlists.multiplied(quotient, second), rest)
            self.assertEqual(intlists.remainders(total, 101), intlists.trimmed(first))
            self.assertEqual((first, second), kept)

    def test_powers_and_divisors_modulo(self):
        # Modulo 7, x ** 2 + 1 has no root, and each x is a root of x ** 7 - x.
        self.assertEqual(intlists.power_modulo([0, 1], 7, [1, 0, 1], 7), [0, 6])
        self.assertEqual(intlists.power_modulo([3, 1], 0, [1, 0, 1], 7), [1])
        self.assertEqual(intlists.power_modulo([3, 1], 48, [1, 0, 1], 7), [1])
        found = intlists.divisor_modulo([0, -1, 0, 0, 0, 0, 0, 1], [-6, -1, 1], 7)
        self.assertEqual(intlists.monic_modulo(found, 7), [1, 6, 1])
        self.assertEqual(intlists.divisor_modulo([7, 14], [1, 1], 7), [1, 1])

    def test_coprime_modulo_only_says_what_is_certain(self):
        # x + 1 and x + 8 are equal modulo 7, and modulo 7 both 7 x + 1 and 14 x + 1 lose their leads.
        self.assertFalse(intlists.coprime_modulo([1, 1], [8, 1], 7))
        self.assertTrue(intlists.coprime_modulo([1, 1], [8, 1], 11))
        self.assertFalse(intlists.coprime_modulo([1, 7], [1, 14], 7))
        self.assertFalse(intlists.coprime_modulo([1, 1], [7, 7], 7))
        self.assertTrue(intlists.coprime_modulo([3], [7, 7, 1], 7))
        self.assertFalse(intlists.coprime_modulo([2, 3, 1], [3, 4, 1], 2 ** 61 - 1))

    def test_products_of_all_lengths(self):
        source = random.Random(11)
        for first in range(0, 20):
            for second in range(0, 20):
                for size in [1, 1000, 2 ** 70]:
                    p = [source.randint(-size, size) for _ in range(first)]
                    q = [source.randint(-size, size) for _ in range(second)]
                    found = intlists.multiplied(p, q)
                    expected = [0] * (first + second - 1 if first and second else 0)
                    for i, x in enumerate(p):
                        for j, y in enumerate(q):
                            expected[i + j] += x * y
                    self.assertEqual(found, expected)


if __name__ == "__main__":
    unittest.main()
