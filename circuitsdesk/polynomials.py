"""Polynomials in s: lists of whole coefficients from the lowest power up, the last one not 0; the empty list is 0."""


def trimmed(coefficients):
    """The polynomial with these coefficients, of which the last ones may be 0."""
    length = len(coefficients)
    while length > 0 and coefficients[length - 1] == 0:
        length = length - 1
    return coefficients[:length]


def constant(number):
    """The polynomial that is this number, whatever s is."""
    return trimmed([number])


def scaled(polynomial, factor):
    """A polynomial times a whole number."""
    return trimmed([factor * number for number in polynomial])


def plus(first, second):
    """The sum of two polynomials."""
    total = [0] * max(len(first), len(second))
    for power, number in enumerate(first):
        total[power] = number
    for power, number in enumerate(second):
        total[power] = total[power] + number
    return trimmed(total)


def minus(first, second):
    """The first polynomial less the second."""
    return plus(first, scaled(second, -1))


def times(first, second):
    """The product of two polynomials."""
    product = [0] * (len(first) + len(second))
    for power, number in enumerate(first):
        for other_power, other_number in enumerate(second):
            product[power + other_power] = product[power + other_power] + number * other_number
    return trimmed(product)


def exact_quotient(upper, lower):
    """The polynomial that is upper when multiplied by lower; asked only where there is one."""
    rest = list(upper)
    quotient = [0] * (len(upper) - len(lower) + 1)
    for shift in range(len(upper) - len(lower), -1, -1):
        factor = rest[shift + len(lower) - 1] // lower[-1]
        quotient[shift] = factor
        for power, number in enumerate(lower):
            rest[shift + power] = rest[shift + power] - factor * number
    return quotient


def at_zero(polynomial):
    """What the polynomial is where s is 0."""
    return polynomial[0] if len(polynomial) > 0 else 0


def common_divisor(numbers):
    """The greatest whole number that divides all of these; 0 where all are 0."""
    divisor = 0
    for number in numbers:
        rest = abs(number)
        while rest != 0:
            remainder = divisor % rest
            divisor = rest
            rest = remainder
    return divisor
