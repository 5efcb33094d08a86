"""Whether two sequences are equal at every index."""

from certsums.errors import InvalidRow
from certsums.operator import least_multiple
from certsums.row import joint_count, first_difference
from certsums.rowbuild import row_of_sum

# So many values are compared before the longer search for a proof begins.
FEW = 12


def common_multiple(first, second):
    """A pair (left, right) with left first = right second, not the zero operator."""
    if first.is_zero or second.is_zero:
        raise InvalidRow("the zero operator has no common multiple but zero")
    return least_multiple(first, second)


def compare_rows(first, second):
    """("equal", left, right) with a common multiple of the operators, or ("different", index)."""
    index = first_difference(first, second, FEW)
    if index is not None:
        return "different", index
    left, right = common_multiple(first.operator, second.operator)
    index = first_difference(first, second, joint_count(first, second, left * first.operator))
    if index is not None:
        return "different", index
    return "equal", left, right


def compare_sums(first, second):
    """The comparison of the rows of two binomial sums."""
    for n in range(FEW):
        if first.value(n) != second.value(n):
            return "different", n
    return compare_rows(row_of_sum(first), row_of_sum(second))
