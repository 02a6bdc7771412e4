"""A second way to each answer, by other means than the program's, for tests to compare with.

A text is read by patterns over whole lines. The equations are kept as the document writes them, with U an unknown
one too and the voltage of node 0 among the rest, and are solved in fractions. Polynomials in s are found from their
values at so many numbers put in for s that there is one alone that has them.
"""

import math
import random
import re
from fractions import Fraction

MOST_BYTES = 65536

NODE = rb"[0-8]"
DIGITS = rb"[0-9]{1,6}"
LOWER = rb"(?:/(?=[0-9]*[1-9])[0-9]{1,6})?"
GAP = rb"\x20+"
FORMS = (
    (rb"[RCL]", 2, rb"(?=0*[1-9])" + DIGITS + LOWER),
    (rb"[VI]", 2, rb"-?" + DIGITS + LOWER),
    (rb"[EG]", 4, rb"-?" + DIGITS + LOWER),
)
ELEMENT = re.compile(b"|".join(
    rb"\x20*" + letter + (GAP + NODE) * count + GAP + value + rb"\x20*" for letter, count, value in FORMS))


class Refused(Exception):
    """Its one argument is the number that is answered."""


class Unchanged(list):
    """A list that bears no change, not for a while either."""

    def refuse(self, *args, **kwargs):
        raise AssertionError("the text was changed")

    append = extend = insert = pop = remove = clear = sort = reverse = refuse
    __setitem__ = __delitem__ = __iadd__ = __imul__ = refuse


def as_bytes(text):
    """A text as bytes, written as str (Latin-1) or bytes."""
    return text.encode("latin-1") if isinstance(text, str) else bytes(text)


def read(text):
    """The elements of a text: letter, nodes, value."""
    text = as_bytes(text)
    if len(text) > MOST_BYTES:
        raise Refused(-2)
    circuit = []
    for number, line in enumerate(text.split(b"\n")):
        if line.startswith(b"*") or not line.strip(b" "):
            continue
        if ELEMENT.fullmatch(line) is None or len(circuit) == 16:
            raise Refused(-100 - number)
        words = line.decode("ascii").split()
        circuit.append((words[0], [int(word) for word in words[1:-1]], Fraction(words[-1])))
    return circuit


def greatest(circuit):
    return max((node for letter, nodes, value in circuit for node in nodes), default=0)


def equations(circuit, s):
    """Rows of the equations, what they come to behind: voltages from node 0 on, then U and J of each element."""
    count = greatest(circuit) + 1
    size = count + 2 * len(circuit)
    rows = []

    def equation(right, parts):
        row = [Fraction(0)] * size + [Fraction(right)]
        for place, factor in parts:
            row[place] += factor
        rows.append(row)

    equation(0, [(0, 1)])
    flows = [[] for node in range(count)]
    for number, (letter, nodes, value) in enumerate(circuit):
        voltage, current = count + 2 * number, count + 2 * number + 1
        flows[nodes[0]].append((current, 1))
        flows[nodes[1]].append((current, -1))
        equation(0, [(voltage, 1), (nodes[0], -1), (nodes[1], 1)])
        steering = [(nodes[2], -value), (nodes[3], value)] if letter in "EG" else []
        equation(*{
            "R": (0, [(voltage, 1), (current, -value)]),
            "C": (0, [(current, 1), (voltage, -s * value)]),
            "L": (0, [(voltage, 1), (current, -s * value)]),
            "V": (value, [(voltage, 1)]),
            "I": (value, [(current, 1)]),
            "E": (0, [(voltage, 1)] + steering),
            "G": (0, [(current, 1)] + steering),
        }[letter])
    for node in range(1, count):
        equation(0, flows[node])
    return rows


def solve(circuit, s):
    """The determinant, and the solution where it isn't 0."""
    rows = equations(circuit, s)
    determinant = Fraction(1)
    for place in range(len(rows)):
        found = [number for number in range(place, len(rows)) if rows[number][place]]
        if not found:
            return 0, None
        if found[0] != place:
            rows[place], rows[found[0]] = rows[found[0]], rows[place]
            determinant = -determinant
        determinant *= rows[place][place]
        rows[place] = [entry / rows[place][place] for entry in rows[place]]
        for number in range(len(rows)):
            factor = rows[number][place]
            if number != place and factor:
                rows[number] = [entry - factor * other for entry, other in zip(rows[number], rows[place])]
    return determinant, [row[-1] for row in rows]


def at_rest(circuit):
    """Voltages of all nodes, U of all elements, J of all elements."""
    solution = solve(circuit, 0)[1]
    if solution is None:
        raise Refused(-5)
    count = greatest(circuit) + 1
    return solution[:count], solution[count::2], solution[count + 1::2]


def told(most, words):
    if len(words) > most:
        raise Refused(-1)
    return [len(words)] + list(words.encode("ascii"))


def answer(call, *handed):
    """What a call that may be refused answers."""
    try:
        return call(*handed)
    except Refused as refusal:
        return [refusal.args[0]]


def check(text):
    circuit = read(text)
    return [0, greatest(circuit), len(circuit), len([letter for letter, nodes, value in circuit if letter in "CL"])]


def volts(most, text):
    if most < 0:
        raise Refused(-2)
    voltages = at_rest(read(text))[0]
    return told(most, "".join(f"{node} {voltages[node]}\n" for node in range(1, len(voltages))))


def power(element, most, text):
    if most < 0:
        raise Refused(-2)
    circuit = read(text)
    if not 0 <= element < len(circuit):
        raise Refused(-2)
    nodes, voltages, currents = at_rest(circuit)
    return told(most, str(voltages[element] * currents[element]))


def trimmed(polynomial):
    while polynomial and not polynomial[-1]:
        polynomial = polynomial[:-1]
    return polynomial


def through(points):
    """The polynomial of the lowest degree with these values: a list of pairs of s and value."""
    total = [Fraction(0)] * len(points)
    for s, value in points:
        part = [value]
        for other, ignored in points:
            if other != s:
                # times (letter - other) / (s - other)
                part = [(before - other * here) / (s - other) for before, here in zip([0] + part, part + [0])]
        total = [one + another for one, another in zip(total, part)]
    return trimmed(total)


def samples(circuit):
    """s, the determinant and the solution, at one number more than the degree that the determinant may have."""
    degree = len([letter for letter, nodes, value in circuit if letter in "CL"])
    found = []
    for s in range(2 * degree + 1):
        determinant, solution = solve(circuit, s)
        if determinant:
            found.append((s, determinant, solution))
    # A determinant that isn't 0 itself is 0 at no more numbers than its degree.
    if len(found) <= degree:
        raise Refused(-5)
    return found[:degree + 1]


def divided(upper, lower):
    """Quotient and remainder of polynomials."""
    quotient = []
    while len(upper) >= len(lower):
        factor = upper[-1] / lower[-1]
        quotient.insert(0, factor)
        taken = [Fraction(0)] * (len(upper) - len(lower)) + [factor * entry for entry in lower]
        upper = [entry - other for entry, other in zip(upper, taken)][:-1]
    return quotient, trimmed(upper)


def lowest(upper, lower):
    """Upper and lower polynomial of a quotient as the document asks for them."""
    first, rest = lower, upper
    while rest:
        first, rest = rest, divided(first, rest)[1]
    upper, lower = divided(upper, first)[0], divided(lower, first)[0]
    whole = math.lcm(*(entry.denominator for entry in upper + lower))
    shared = math.gcd(*(int(entry * whole) for entry in upper + lower))
    factor = Fraction(whole, shared) * (-1 if lower[-1] < 0 else 1)
    return [entry * factor for entry in upper], [entry * factor for entry in lower]


def signal(source, a, b, most, text):
    if most < 0:
        raise Refused(-2)
    circuit = read(text)
    if not 0 <= source < len(circuit) or circuit[source][0] not in "VI":
        raise Refused(-2)
    if not (0 <= a <= greatest(circuit) and 0 <= b <= greatest(circuit)):
        raise Refused(-2)
    changed = [(letter, nodes, Fraction(number == source) if letter in "VI" else value)
               for number, (letter, nodes, value) in enumerate(circuit)]
    found = samples(changed)
    upper, lower = lowest(
        through([(s, determinant * (solution[a] - solution[b])) for s, determinant, solution in found]),
        through([(s, determinant) for s, determinant, solution in found]))
    return told(most, (" ".join(map(str, upper)) or "0") + " / " + " ".join(map(str, lower)))


def determinant_in_s(circuit):
    """The determinant as a polynomial, its highest coefficient above 0."""
    polynomial = through([(s, determinant) for s, determinant, solution in samples(circuit)])
    return [-entry for entry in polynomial] if polynomial[-1] < 0 else polynomial


def settles(text):
    """By Routh's scheme: each row from the two before it, as long as its first entry is above 0."""
    polynomial = determinant_in_s(read(text))
    high, low = polynomial[::-2], polynomial[-2::-2]
    while low:
        if low[0] <= 0:
            return [0]
        factor = high[0] / low[0]
        low_filled = low[1:] + [Fraction(0)] * (len(high) - len(low))
        high, low = low, [entry - factor * other for entry, other in zip(high[1:], low_filled)]
    return [1]


def written(circuit):
    """The text of a circuit."""
    return "".join(f"{letter} {' '.join(map(str, nodes))} {value}\n" for letter, nodes, value in circuit)


def some_circuits(count, seed, letters="RRRCLVIEG"):
    """Texts within what may be asked, the same ones each time; most hang together."""
    chance = random.Random(seed)
    texts = []
    while len(texts) < count:
        nodes = chance.randint(1, 4)
        circuit = []
        for number in range(chance.randint(nodes, 8 - nodes)):
            letter = chance.choice(letters)
            # The first ones tie each node to one before it, so that not too many of the circuits are refused.
            first = number + 1 if number < nodes else chance.randint(0, nodes)
            ends = [first, chance.randint(0, min(number, nodes))]
            if chance.random() < 0.5:
                ends.reverse()
            if letter in "EG":
                ends += [chance.randint(0, nodes), chance.randint(0, nodes)]
            value = Fraction(chance.randint(1, 9), chance.choice((1, 1, 1, 2, 3, 10)))
            if letter in "VIEG":
                value *= chance.choice((-1, 0, 1, 1))
            circuit.append((letter, ends, value))
        chance.shuffle(circuit)
        texts.append(written(circuit))
    return texts
