"""Reading a text, handed in as its bytes, into the elements that it tells."""

from circuitsdesk.refusals import WrongLine

MOST_ELEMENTS = 16
MOST_DIGITS = 6
GREATEST_NODE = 8

LINE_END = 10
BLANK = 32
STAR = 42
MINUS = 45
SLASH = 47
DIGIT_0 = 48
DIGIT_9 = 57

# A text comes as numbers, so each element's letter is known by its byte.
KINDS = {82: "R", 67: "C", 76: "L", 86: "V", 73: "I", 69: "E", 71: "G"}


class Element:
    """One element: its letter, its two or four nodes, its value as top over bottom."""

    def __init__(self, kind, nodes, top, bottom):
        self.kind = kind
        self.nodes = nodes
        self.top = top
        self.bottom = bottom


def split_at(signs, mark):
    """The stretches before, between and behind the marks, empty ones too."""
    pieces = []
    start = 0
    for place, sign in enumerate(signs):
        if sign == mark:
            pieces.append(signs[start:place])
            start = place + 1
    pieces.append(signs[start:])
    return pieces


def words_of(line):
    """The words of a line; none where the line says nothing."""
    if len(line) > 0 and line[0] == STAR:
        return []
    return [word for word in split_at(line, BLANK) if len(word) > 0]


def read_kind(word):
    """The letter of an element, or None."""
    if len(word) != 1:
        return None
    return KINDS.get(word[0])


def read_node(word):
    """The number of a node, or None."""
    if len(word) != 1:
        return None
    node = word[0] - DIGIT_0
    if node < 0 or node > GREATEST_NODE:
        return None
    return node


def read_digits(signs):
    """The whole number that the digits tell, or None."""
    # Asked first, so that no long run of digits is ever made a number.
    if len(signs) < 1 or len(signs) > MOST_DIGITS:
        return None
    number = 0
    for sign in signs:
        if sign < DIGIT_0 or sign > DIGIT_9:
            return None
        number = number * 10 + sign - DIGIT_0
    return number


def read_value(word):
    """A value as a pair, top over bottom, not reduced; or None."""
    negative = word[0] == MINUS
    halves = split_at(word[1:] if negative else word, SLASH)
    if len(halves) > 2:
        return None
    top = read_digits(halves[0])
    bottom = read_digits(halves[1]) if len(halves) == 2 else 1
    if top is None or bottom is None or bottom == 0:
        return None
    return (-top if negative else top, bottom)


def read_element(words):
    """The element that a line's words tell, or None."""
    kind = read_kind(words[0])
    if kind is None:
        return None
    node_count = 4 if kind in ("E", "G") else 2
    if len(words) != node_count + 2:
        return None
    nodes = [read_node(word) for word in words[1:-1]]
    value = read_value(words[-1])
    if None in nodes or value is None:
        return None
    if kind in ("R", "C", "L") and value[0] <= 0:
        return None
    return Element(kind, nodes, value[0], value[1])


def read_circuit(text):
    """The elements in the order of their lines; raises WrongLine."""
    circuit = []
    # Behind a last line's end an empty stretch is left: like a line without words, it says nothing.
    for number, line in enumerate(split_at(text, LINE_END)):
        words = words_of(line)
        if len(words) == 0:
            continue
        element = read_element(words)
        if element is None or len(circuit) == MOST_ELEMENTS:
            raise WrongLine(number)
        circuit.append(element)
    return circuit


def greatest_node(circuit):
    """The greatest node that is named, 0 if none is."""
    greatest = 0
    for element in circuit:
        greatest = max(greatest, max(element.nodes))
    return greatest
