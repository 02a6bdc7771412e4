"""Writing what is told: fractions and polynomials as texts, and a text as its bytes."""

from circuitsdesk.polynomials import common_divisor
from circuitsdesk.refusals import TooManyBytes


def fraction_text(top, bottom):
    """A fraction in lowest terms; the bottom is not 0."""
    divisor = common_divisor([top, bottom])
    if bottom < 0:
        divisor = -divisor
    upper = str(top // divisor)
    lower = str(bottom // divisor)
    return upper if lower == "1" else upper + "/" + lower


def polynomial_text(polynomial):
    """The coefficients from the lowest power up, blanks between; 0 alone where there are none."""
    if len(polynomial) == 0:
        return "0"
    return " ".join([str(number) for number in polynomial])


def told(most, words):
    """How many bytes a written text has, then these."""
    if len(words) > most:
        raise TooManyBytes()
    return [len(words)] + [ord(sign) for sign in words]
