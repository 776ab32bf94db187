"""Exact fractions, as they are answered: the numerator, then the denominator."""


def common_divisor(left, right):
    """The greatest whole number that divides both, which are not negative and not both 0."""
    while right > 0:
        rest = left % right
        left = right
        right = rest
    return left


def lowest_terms(top, bottom):
    """The fraction top / bottom in lowest terms; bottom is positive."""
    divisor = common_divisor(abs(top), bottom)
    return [top // divisor, bottom // divisor]


def is_less(left, right):
    """Whether the fraction left is below the fraction right."""
    return left[0] * right[1] < right[0] * left[1]
