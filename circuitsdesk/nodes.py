"""The calls: each takes whole numbers and bytes, and answers with a list of whole numbers."""

from circuitsdesk.equations import solution_at_rest, solution_by_signal, solution_in_s
from circuitsdesk.netlist import greatest_node, read_circuit
from circuitsdesk.polynomials import at_zero
from circuitsdesk.quotients import lowest_terms
from circuitsdesk.refusals import BadCall, NotOneSolution, TooManyBytes, WrongLine
from circuitsdesk.settling import lies_left
from circuitsdesk.telling import fraction_text, polynomial_text, told

MOST_BYTES = 65536


def circuit_of(text):
    """The elements that a text tells; or a refusal is raised."""
    if len(text) > MOST_BYTES:
        raise BadCall()
    return read_circuit(text)


def circuit_to_tell(most, text):
    """The same where bytes are to be told, most of them at the most."""
    if most < 0:
        raise BadCall()
    return circuit_of(text)


def storing_count(circuit):
    """How many elements are capacitors or coils."""
    return len([element for element in circuit if element.kind in ("C", "L")])


def volts_text(circuit):
    """A line for each node from 1 on: its number and its voltage at rest."""
    solution = solution_at_rest(circuit)
    lines = []
    for node in range(1, greatest_node(circuit) + 1):
        voltage = fraction_text(at_zero(solution.voltage(node)), at_zero(solution.bottom))
        lines.append(f"{node} {voltage}\n")
    return "".join(lines)


def power_text(circuit, number):
    """U J at rest of the element of this number."""
    if number < 0 or number >= len(circuit):
        raise BadCall()
    nodes = circuit[number].nodes
    solution = solution_at_rest(circuit)
    voltage = at_zero(solution.voltage_between(nodes[0], nodes[1]))
    current = at_zero(solution.current(number))
    bottom = at_zero(solution.bottom)
    return fraction_text(voltage * current, bottom * bottom)


def signal_text(circuit, source, a, b):
    """The voltage of a less that of b as a quotient of polynomials in s, by the source of this number alone."""
    if source < 0 or source >= len(circuit) or circuit[source].kind not in ("V", "I"):
        raise BadCall()
    if min(a, b) < 0 or max(a, b) > greatest_node(circuit):
        raise BadCall()
    solution = solution_by_signal(circuit, source)
    parts = lowest_terms(solution.voltage_between(a, b), solution.bottom)
    return polynomial_text(parts[0]) + " / " + polynomial_text(parts[1])


def el_check(text):
    """0, the greatest node, how many elements, how many of them are C or L; or a refusal."""
    try:
        circuit = circuit_of(text)
    except (BadCall, WrongLine) as e:
        return [e.answer]
    return [0, greatest_node(circuit), len(circuit), storing_count(circuit)]


def el_volts(most, text):
    """How many bytes, then these: the voltages at rest, a line for each node from 1 on; or a refusal."""
    try:
        circuit = circuit_to_tell(most, text)
        return told(most, volts_text(circuit))
    except (BadCall, WrongLine, NotOneSolution, TooManyBytes) as e:
        return [e.answer]


def el_power(element, most, text):
    """How many bytes, then these: U J at rest of the element of this number; or a refusal."""
    try:
        circuit = circuit_to_tell(most, text)
        return told(most, power_text(circuit, element))
    except (BadCall, WrongLine, NotOneSolution, TooManyBytes) as e:
        return [e.answer]


def el_signal(source, a, b, most, text):
    """How many bytes, then these: what the source of this number makes of the voltage from a to b; or a refusal."""
    try:
        circuit = circuit_to_tell(most, text)
        return told(most, signal_text(circuit, source, a, b))
    except (BadCall, WrongLine, NotOneSolution, TooManyBytes) as e:
        return [e.answer]


def el_settles(text):
    """1 if all that the determinant of the equations is 0 for lies left of 0, else 0; or a refusal."""
    try:
        circuit = circuit_of(text)
        return [1 if lies_left(solution_in_s(circuit).bottom) else 0]
    except (BadCall, WrongLine, NotOneSolution) as e:
        return [e.answer]
