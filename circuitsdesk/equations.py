"""The equations of a circuit, and their solution.

The unknown ones are the voltages of the nodes from 1 on, then the currents of the elements.
"""

from circuitsdesk.determinants import determinant
from circuitsdesk.netlist import Element, greatest_node
from circuitsdesk.polynomials import constant, minus, plus, scaled, times
from circuitsdesk.refusals import NotOneSolution


class Law:
    """An element's own equation: what stands by U, by J and by the steering voltage, and what that is in all."""

    def __init__(self, by_voltage, by_current, by_steering, right):
        self.by_voltage = by_voltage
        self.by_current = by_current
        self.by_steering = by_steering
        self.right = right


def law_of(element, s):
    """The law of an element, times its value's lower number, so that all coefficients are whole."""
    top = constant(element.top)
    bottom = constant(element.bottom)
    if element.kind == "R":
        return Law(bottom, scaled(top, -1), [], [])
    if element.kind == "C":
        return Law(times(s, top), scaled(bottom, -1), [], [])
    if element.kind == "L":
        return Law(bottom, scaled(times(s, top), -1), [], [])
    if element.kind == "V":
        return Law(bottom, [], [], top)
    if element.kind == "I":
        return Law([], bottom, [], top)
    if element.kind == "E":
        return Law(bottom, [], scaled(top, -1), [])
    return Law([], bottom, scaled(top, -1), [])


def share(node, first, second):
    """How often a node counts in what goes from the first node to the second: 1, -1 or 0."""
    return (1 if node == first else 0) - (1 if node == second else 0)


def node_row(circuit, node):
    """The equation of a node: what flows from it through elements is 0 in all."""
    voltages = [[] for place in range(greatest_node(circuit))]
    return voltages + [constant(share(node, element.nodes[0], element.nodes[1])) for element in circuit]


def by_node(element, law, node):
    """What stands by a node's voltage in the element's own equation."""
    own = scaled(law.by_voltage, share(node, element.nodes[0], element.nodes[1]))
    # Where there are two nodes alone, nothing steers: the law has 0 there, and these two do no harm.
    steering = scaled(law.by_steering, share(node, element.nodes[-2], element.nodes[-1]))
    return plus(own, steering)


def element_row(circuit, number, s):
    """The own equation of the element of this number."""
    element = circuit[number]
    law = law_of(element, s)
    voltages = [by_node(element, law, node) for node in range(1, greatest_node(circuit) + 1)]
    return voltages + [law.by_current if place == number else [] for place in range(len(circuit))]


def left_sides(circuit, s):
    """The square table of what stands by each unknown one: an equation for each node, then for each element."""
    rows = [node_row(circuit, node) for node in range(1, greatest_node(circuit) + 1)]
    return rows + [element_row(circuit, number, s) for number in range(len(circuit))]


def right_sides(circuit, s):
    """What the left side of each equation comes to."""
    return [[] for place in range(greatest_node(circuit))] + [law_of(element, s).right for element in circuit]


class Solution:
    """The one solution, with a polynomial for the letter s: each unknown one is what is told here over the bottom.

    The bottom is the determinant of the equations, times a whole number above 0.
    """

    def __init__(self, circuit, s):
        self.greatest = greatest_node(circuit)
        self.left = left_sides(circuit, s)
        self.right = right_sides(circuit, s)
        self.bottom = determinant(self.left)
        if len(self.bottom) == 0:
            raise NotOneSolution()

    def unknown(self, place):
        """By Cramer's rule: the determinant with the right sides in the place of the unknown one's column."""
        table = []
        for row, right in zip(self.left, self.right):
            table.append(row[:place] + [right] + row[place + 1:])
        return determinant(table)

    def voltage(self, node):
        """The voltage of a node, over the bottom."""
        if node == 0:
            return []
        return self.unknown(node - 1)

    def voltage_between(self, first, second):
        """The voltage of the first node less that of the second, over the bottom."""
        return minus(self.voltage(first), self.voltage(second))

    def current(self, number):
        """The current of the element of this number, over the bottom."""
        return self.unknown(self.greatest + number)


def solution_at_rest(circuit):
    """The one solution with 0 for s from the beginning."""
    return Solution(circuit, [])


def solution_in_s(circuit):
    """The one solution in quotients of polynomials in s."""
    return Solution(circuit, [0, 1])


def signal_alone(circuit, source):
    """The circuit with the value 1 for the source of this number, 0 for all other sources."""
    changed = []
    for number, element in enumerate(circuit):
        if element.kind in ("V", "I"):
            changed.append(Element(element.kind, element.nodes, 1 if number == source else 0, 1))
        else:
            changed.append(element)
    return changed


def solution_by_signal(circuit, source):
    """The one solution in s with the value 1 for the source of this number, 0 for all other sources."""
    return solution_in_s(signal_alone(circuit, source))
