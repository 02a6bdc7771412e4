"""Whether all numbers for which a polynomial is 0 lie left of 0, by the determinants of a table of its coefficients."""

from circuitsdesk.determinants import determinant
from circuitsdesk.polynomials import at_zero, constant, scaled


def coefficient(polynomial, power):
    """The coefficient at this power of s, 0 where there is none."""
    if power < 0 or power >= len(polynomial):
        return 0
    return polynomial[power]


def table_row(polynomial, i):
    """Row i of the table, from 1 on."""
    m = len(polynomial) - 1
    return [constant(coefficient(polynomial, m - 2 * j + i)) for j in range(1, m + 1)]


def lies_left(polynomial):
    """Whether the polynomial, which is not 0 itself, is 0 only for numbers left of 0."""
    turned = scaled(polynomial, -1) if polynomial[-1] < 0 else polynomial
    m = len(turned) - 1
    table = [table_row(turned, i) for i in range(1, m + 1)]
    for k in range(1, m + 1):
        if at_zero(determinant([row[:k] for row in table[:k]])) <= 0:
            return False
    return True
