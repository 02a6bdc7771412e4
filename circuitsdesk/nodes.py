"""The calls: each takes whole numbers and bytes, and answers with a list of whole numbers."""

from circuitsdesk.netlist import WrongLine, read_circuit

MOST_BYTES = 65536

# A wrong line's number is taken from this one.
FIRST_LINE_WRONG = -100
BAD_CALL = -2


def greatest_node(circuit):
    """The greatest node that is named, 0 if none is."""
    greatest = 0
    for element in circuit:
        greatest = max(greatest, max(element.nodes))
    return greatest


def storing_count(circuit):
    """How many elements are capacitors or coils."""
    return len([element for element in circuit if element.kind in ("C", "L")])


def el_check(text):
    """0, the greatest node, how many elements, how many of them are C or L; or a refusal."""
    if len(text) > MOST_BYTES:
        return [BAD_CALL]
    try:
        circuit = read_circuit(text)
    except WrongLine as e:
        return [FIRST_LINE_WRONG - e.line]
    return [0, greatest_node(circuit), len(circuit), storing_count(circuit)]
