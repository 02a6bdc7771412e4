"""Quotients of two polynomials in s, in lowest terms."""

from circuitsdesk.polynomials import common_divisor, exact_quotient, minus, scaled


def without_divisor(polynomial):
    """The polynomial over the greatest whole number that divides all its coefficients."""
    divisor = common_divisor(polynomial)
    return [number // divisor for number in polynomial]


def remainder(upper, lower):
    """What is left of upper, times some whole number, when lower is taken away as often as it goes."""
    rest = upper
    while len(rest) >= len(lower):
        # Each times the other's highest coefficient, so that the highest power falls away without a fraction.
        shifted = [0] * (len(rest) - len(lower)) + scaled(lower, rest[-1])
        rest = minus(scaled(rest, lower[-1]), shifted)
    return rest


def common_factor(first, second):
    """The polynomial of the highest degree that divides both, which are not both 0."""
    factor = first
    rest = second
    while len(rest) > 0:
        # Without their divisors the coefficients stay small.
        left_over = without_divisor(remainder(factor, rest))
        factor = rest
        rest = left_over
    return without_divisor(factor)


def lowest_terms(upper, lower):
    """Both polynomials, lower not 0: without a common factor or divisor, the highest coefficient below above 0."""
    factor = common_factor(upper, lower)
    upper_part = exact_quotient(upper, factor)
    lower_part = exact_quotient(lower, factor)
    divisor = common_divisor(upper_part + lower_part)
    if lower_part[-1] < 0:
        divisor = -divisor
    return ([number // divisor for number in upper_part], [number // divisor for number in lower_part])
