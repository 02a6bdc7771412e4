"""el_volts: point 2 of the document, what point 6 says of it, and the refusals ahead."""

import unittest

import second
from alike import MORE_THAN_ONE, NO_SOLUTION, Alike, bytes_told
from circuitsdesk.nodes import el_volts
from second import MOST_BYTES, as_bytes


def volts(text, most=MOST_BYTES):
    """The lines told, without their ends; or the refusal."""
    words = bytes_told(el_volts(most, list(as_bytes(text))))
    if isinstance(words, int):
        return words
    assert words == "" or words.endswith("\n")
    return words.split("\n")[:-1]


class Calls(Alike, unittest.TestCase):
    def ask(self, text):
        return el_volts(MOST_BYTES, text)


class Ordinary(unittest.TestCase):
    def test_bytes(self):
        text = list(b"V 1 0 10\nR 1 2 1/2\nR 2 0 3\n")
        self.assertEqual(el_volts(MOST_BYTES, text), [12] + list(b"1 10\n2 60/7\n"))

    def test_resistances(self):
        self.assertEqual(volts("R 1 0 5"), ["1 0"])
        self.assertEqual(volts("V 1 0 6\nR 1 2 2\nR 2 0 1"), ["1 6", "2 2"])
        self.assertEqual(volts("V 1 0 6\nR 2 1 2\nR 0 2 1"), ["1 6", "2 2"])
        self.assertEqual(volts("V 1 0 1\nR 1 2 1/3\nR 1 2 1/4\nR 2 0 1/5"), ["1 1", "2 7/12"])

    def test_capacitors(self):
        self.assertEqual(volts("V 1 0 3\nR 1 2 5\nC 2 0 1"), ["1 3", "2 3"])
        self.assertEqual(volts("V 1 0 3\nC 1 2 1\nR 2 0 4"), ["1 3", "2 0"])

    def test_coils(self):
        self.assertEqual(volts("L 1 0 5"), ["1 0"])
        self.assertEqual(volts("V 1 0 3\nL 1 2 5\nR 2 0 1"), ["1 3", "2 3"])
        self.assertEqual(volts("V 1 0 3\nR 1 2 5\nL 2 0 1"), ["1 3", "2 0"])

    def test_sources_of_voltage(self):
        self.assertEqual(volts("V 1 0 5"), ["1 5"])
        self.assertEqual(volts("V 0 1 5"), ["1 -5"])
        self.assertEqual(volts("V 1 0 -5/3"), ["1 -5/3"])
        self.assertEqual(volts("V 0 1 -5/3"), ["1 5/3"])
        self.assertEqual(volts("V 1 0 0"), ["1 0"])
        self.assertEqual(volts("V 1 0 4\nV 2 1 3\nV 2 3 1/2"), ["1 4", "2 7", "3 13/2"])

    def test_sources_of_current(self):
        self.assertEqual(volts("I 0 1 5\nR 1 0 2"), ["1 10"])
        self.assertEqual(volts("I 1 0 5\nR 1 0 2"), ["1 -10"])
        self.assertEqual(volts("I 0 1 -5/6\nR 1 0 2"), ["1 -5/3"])
        self.assertEqual(volts("I 0 1 0\nR 1 0 2"), ["1 0"])

    def test_steered_voltages(self):
        self.assertEqual(volts("V 1 0 2\nE 2 0 1 0 -7/3\nR 2 0 1"), ["1 2", "2 -14/3"])
        self.assertEqual(volts("V 1 0 2\nE 0 2 1 0 -7/3"), ["1 2", "2 14/3"])
        self.assertEqual(volts("V 1 0 2\nE 2 0 0 1 5"), ["1 2", "2 -10"])
        self.assertEqual(volts("V 1 0 2\nV 2 0 5\nE 3 1 2 1 4"), ["1 2", "2 5", "3 14"])
        self.assertEqual(volts("V 1 0 2\nE 2 0 1 0 0"), ["1 2", "2 0"])
        self.assertEqual(volts("E 1 0 1 0 2"), ["1 0"])

    def test_steered_currents(self):
        self.assertEqual(volts("V 1 0 2\nG 2 0 1 0 3\nR 2 0 5"), ["1 2", "2 -30"])
        self.assertEqual(volts("V 1 0 2\nG 0 2 1 0 3\nR 2 0 5"), ["1 2", "2 30"])
        self.assertEqual(volts("V 1 0 2\nG 2 0 0 1 3/4\nR 2 0 5"), ["1 2", "2 15/2"])
        self.assertEqual(volts("G 1 0 1 0 1/2"), ["1 0"])
        self.assertEqual(volts("I 0 1 3\nG 1 0 1 0 2"), ["1 3/2"])

    def test_several_together(self):
        self.assertEqual(volts("V 1 0 9\nR 1 2 3\nL 2 3 1\nR 3 0 6\nC 3 0 2"), ["1 9", "2 6", "3 6"])
        self.assertEqual(volts("V 1 0 1\nR 1 2 1\nE 3 0 0 2 999999\nR 2 3 1"),
                         ["1 1", "2 1/1000001", "3 -999999/1000001"])
        self.assertEqual(volts("I 0 1 1\nR 1 0 1\nG 0 2 1 0 1\nR 2 0 1\nI 2 0 2"), ["1 1", "2 -1"])

    def test_bridge(self):
        self.assertEqual(volts("V 1 0 1\nR 1 2 1\nR 1 3 2\nR 2 0 3\nR 3 0 4"), ["1 1", "2 3/4", "3 2/3"])

    def test_order_of_lines_and_turned_elements_do_not_matter(self):
        lines = ["V 1 0 9", "R 1 2 3", "L 2 3 1", "R 3 0 6", "C 3 0 2"]
        for turn in range(5):
            self.assertEqual(volts("\n".join(lines[turn:] + lines[:turn])), ["1 9", "2 6", "3 6"])
        self.assertEqual(volts("V 0 1 -9\nR 2 1 3\nL 3 2 1\nR 0 3 6\nC 0 3 2"), ["1 9", "2 6", "3 6"])


class Fractions(unittest.TestCase):
    def test_lowest_terms(self):
        for value, told in (("2/4", "1/2"), ("-2/4", "-1/2"), ("6/3", "2"), ("-6/3", "-2"), ("0/7", "0"), ("-0", "0"),
                            ("-0/3", "0"), ("000010/000020", "1/2"), ("5/1", "5"), ("999999/999998", "999999/999998"),
                            ("-999999/999999", "-1"), ("100000/10", "10000"), ("1/999999", "1/999999")):
            self.assertEqual(volts(f"V 1 0 {value}"), [f"1 {told}"], value)

    def test_values_that_are_not_in_lowest_terms(self):
        self.assertEqual(volts("V 1 0 12/2\nR 1 2 4/2\nR 2 0 10/10"), ["1 6", "2 2"])
        self.assertEqual(volts("V 1 0 4/2\nG 2 0 1 0 6/2\nR 2 0 10/2\nE 3 0 2 0 2/4"), ["1 2", "2 -30", "3 -15"])

    def test_large_numbers(self):
        self.assertEqual(volts("V 1 0 999999/17\nE 2 0 1 0 999999\nE 3 0 2 0 999999\nE 4 0 3 0 -999999/17"),
                         ["1 999999/17", "2 999998000001/17", "3 999997000002999999/17",
                          "4 -999996000005999996000001/289"])


class Edges(unittest.TestCase):
    def test_no_elements(self):
        for text in ("", "\n", "* V 1 0 5\n", "  \n\n"):
            self.assertEqual(el_volts(MOST_BYTES, list(as_bytes(text))), [0], text)
            self.assertEqual(el_volts(0, list(as_bytes(text))), [0], text)

    def test_all_at_node_0(self):
        for text in ("R 0 0 5", "I 0 0 5", "C 0 0 5", "G 0 0 0 0 1", "R 0 0 1\n" * 8):
            self.assertEqual(volts(text), [], text)
        for text in ("V 0 0 5", "V 0 0 0", "L 0 0 5", "E 0 0 0 0 1", "R 0 0 1\nV 0 0 0"):
            self.assertEqual(volts(text), -5, text)

    def test_both_nodes_alike(self):
        self.assertEqual(volts("R 1 0 2\nR 1 1 3\nI 1 1 4\nC 1 1 5\nG 1 1 1 0 6"), ["1 0"])
        self.assertEqual(volts("I 0 1 3\nR 1 0 2\nI 1 1 4"), ["1 6"])
        for line in ("V 1 1 5", "V 1 1 0", "L 1 1 5", "E 1 1 0 0 5"):
            self.assertEqual(volts("R 1 0 2\n" + line), -5, line)
        # The voltage that steers it must be 0, and is: but any current may flow through it from the node to the node.
        self.assertEqual(volts("R 1 0 2\nE 1 1 1 0 5"), -5)
        self.assertEqual(volts("R 1 1 5"), -5)

    def test_steering_nodes_alike(self):
        self.assertEqual(volts("V 1 0 2\nE 2 0 1 1 5"), ["1 2", "2 0"])
        self.assertEqual(volts("V 1 0 2\nG 1 0 1 1 5"), ["1 2"])

    def test_nodes_that_no_element_names(self):
        for text in ("R 2 0 1", "R 1 0 1\nR 3 0 1", "V 7 0 1", "R 2 2 1"):
            self.assertEqual(volts(text), -5, text)

    def test_node_that_is_only_asked_for_its_voltage(self):
        self.assertEqual(volts("R 1 0 1\nG 1 0 2 0 1"), -5)
        self.assertEqual(volts("V 1 0 1\nE 1 0 2 0 1"), -5)

    def test_eight_together(self):
        self.assertEqual(volts("V 1 0 8\nR 1 2 1\nR 2 3 1\nR 3 4 1"), ["1 8", "2 8", "3 8", "4 8"])
        self.assertEqual(volts("V 1 0 8\nR 1 2 1\nR 2 3 1\nR 3 0 2\nR 2 0 3"), ["1 8", "2 24/5", "3 16/5"])
        self.assertEqual(volts("V 1 0 8\nR 1 2 1\nL 2 0 1\nI 1 2 5\nG 2 0 1 0 4\nC 1 2 3"), ["1 8", "2 0"])
        self.assertEqual(volts("R 1 0 1\n" * 6 + "I 0 1 1"), ["1 1/6"])
        self.assertEqual(volts("I 0 0 7\n" * 8), [])

    def test_most(self):
        text = "V 1 0 10\nR 1 2 1/2\nR 2 0 3\n"
        self.assertEqual(volts(text, 12), ["1 10", "2 60/7"])
        self.assertEqual(volts(text, 13), ["1 10", "2 60/7"])
        for most in (11, 1, 0):
            self.assertEqual(volts(text, most), -1)
        self.assertEqual(volts("R 1 0 1", 4), ["1 0"])
        self.assertEqual(volts("R 1 0 1", 3), -1)


class Refusals(unittest.TestCase):
    def test_not_just_one_solution(self):
        for text in NO_SOLUTION + MORE_THAN_ONE:
            self.assertEqual(volts(text), -5, text)

    def test_refusals_in_their_order(self):
        for text in NO_SOLUTION + MORE_THAN_ONE:
            self.assertEqual(volts(text, 0), -5, text)
            self.assertEqual(volts(text + "\nx", 0), -100 - len(text.split("\n")), text)
            self.assertEqual(volts(text, -1), -2, text)
        self.assertEqual(volts("x", -1), -2)
        self.assertEqual(volts("V 1 0 5", -1), -2)
        self.assertEqual(volts("", -1), -2)
        self.assertEqual(volts("V 1 0 5\nx", 0), -101)
        self.assertEqual(volts("x" * (MOST_BYTES + 1), 0), -2)


class AgainstFractions(unittest.TestCase):
    def agree(self, texts):
        answers = [volts(text) for text in texts]
        for text, answer in zip(texts, answers):
            self.assertEqual(el_volts(MOST_BYTES, list(as_bytes(text))), second.answer(second.volts, MOST_BYTES, text),
                             text)
        return answers

    def test_some_circuits(self):
        answers = self.agree(second.some_circuits(1500, 1))
        self.assertGreater(len(answers) - answers.count(-5), 400)
        self.assertGreater(answers.count(-5), 200)

    def test_circuits_of_one_sort_of_element_and_resistances(self):
        for letter in "RCLVIEG":
            self.agree(second.some_circuits(100, 2, "RR" + letter))

    def test_all_single_elements(self):
        nodes = ("0 0", "1 0", "0 1", "1 1", "2 1")
        self.agree([f"{letter} {ends} {value}" for letter in "RCL" for ends in nodes for value in ("1", "4/6")])
        self.agree([f"{letter} {ends} {value}" for letter in "VI" for ends in nodes for value in ("0", "-4/6")])
        self.agree([f"{letter} {ends} {steering} {value}" for letter in "EG" for ends in nodes for steering in nodes
                    for value in ("0", "1", "-4/6")])


if __name__ == "__main__":
    unittest.main()
