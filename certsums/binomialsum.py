"""Sums of products of binomial coefficients."""

from certsums.counting import binomial
from certsums.errors import InvalidSum
from certsums.fraction import Fraction
from certsums.intlists import evaluated, power_of


class BinomialSum:
    """The sums of weight(n, k) base ** k times powers of binomial coefficients, over all k from 0 to n."""

    def __init__(self, weight, base, *, choose, rise, central):
        if weight.is_zero or base.is_zero or choose < 1 or rise < 0 or central < 0:
            raise InvalidSum("a binomial sum needs nonzero weight and base, choose >= 1, rise >= 0 and central >= 0")
        self.weight = weight
        self.base = base
        self.choose = choose
        self.rise = rise
        self.central = central

    def __eq__(self, other):
        return (isinstance(other, BinomialSum) and self.weight == other.weight and self.base == other.base
                and self.choose == other.choose and self.rise == other.rise and self.central == other.central)

    @property
    def factors(self):
        """The number of binomial coefficients that are multiplied."""
        return self.choose + self.rise + self.central

    def summand(self, n, k):
        """F(n, k), for n >= 0 and any k."""
        if k < 0 or k > n:
            return Fraction(0)
        count = power_of(binomial(n, k), self.choose) * power_of(binomial(n + k, k), self.rise)
        count = count * power_of(binomial(2 * k, k), self.central)
        return self.weight.value_at(n, k) * self.base.power(k) * Fraction(count)

    def value(self, n):
        """S(n), for n >= 0."""
        row = self.weight.at_n(n)
        numbers = [count * evaluated(row.coefs, k) for k, count in enumerate(_counts(self, n))]
        return Fraction(_weighted(numbers, self.base.num, self.base.den), row.den * power_of(self.base.den, n))


def _counts(binomial_sum, n):
    """The products of binomial coefficients for k from 0 to n."""
    found = []
    chosen, risen, middle = 1, 1, 1
    for k in range(n + 1):
        count = power_of(chosen, binomial_sum.choose) * power_of(risen, binomial_sum.rise)
        found.append(count * power_of(middle, binomial_sum.central))
        chosen = chosen * (n - k) // (k + 1)
        risen = risen * (n + k + 1) // (k + 1)
        middle = middle * (4 * k + 2) // (k + 1)
    return found


def _weighted(numbers, num, den):
    """The sum of numbers[i] num ** i den ** (last - i), where last is the greatest index."""
    if len(numbers) == 1:
        return numbers[0]
    # Two halves keep the numbers of most of the products small.
    middle = len(numbers) // 2
    low = _weighted(numbers[:middle], num, den) * power_of(den, len(numbers) - middle)
    return low + power_of(num, middle) * _weighted(numbers[middle:], num, den)
