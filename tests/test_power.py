"""el_power: point 3 of the document, what point 6 says of it, and the refusals ahead."""

import unittest
from fractions import Fraction

import second
from alike import GOOD, MORE_THAN_ONE, NO_SOLUTION, WRONG, Alike, bytes_told
from circuitsdesk.nodes import el_power
from second import MOST_BYTES, as_bytes


def power(text, element, most=MOST_BYTES):
    """What is told, as a text; or the refusal."""
    return bytes_told(el_power(element, most, list(as_bytes(text))))


def powers(text):
    """What is told of each element."""
    return [power(text, number) for number in range(len(second.read(text)))]


class Calls(Alike, unittest.TestCase):
    def ask(self, text):
        return el_power(0, MOST_BYTES, text)


class CallsOnTheLastElement(Alike, unittest.TestCase):
    def ask(self, text):
        return el_power(2, MOST_BYTES, text)


class Ordinary(unittest.TestCase):
    def test_bytes(self):
        text = list(b"V 1 0 6\nR 1 2 2\nR 2 0 1\n")
        self.assertEqual(el_power(0, MOST_BYTES, text), [3] + list(b"-12"))
        self.assertEqual(el_power(1, MOST_BYTES, text), [1] + list(b"8"))

    def test_resistances(self):
        self.assertEqual(powers("V 1 0 6\nR 1 2 2\nR 2 0 1"), ["-12", "8", "4"])
        self.assertEqual(powers("V 1 0 6\nR 2 1 2\nR 0 2 1"), ["-12", "8", "4"])
        self.assertEqual(powers("V 1 0 5\nR 1 0 3"), ["-25/3", "25/3"])
        self.assertEqual(powers("R 1 0 3"), ["0"])

    def test_capacitors(self):
        self.assertEqual(powers("V 1 0 3\nR 1 2 5\nC 2 0 1"), ["0", "0", "0"])
        self.assertEqual(powers("V 1 0 3\nR 1 0 5\nC 1 0 1"), ["-9/5", "9/5", "0"])

    def test_coils(self):
        self.assertEqual(powers("V 1 0 3\nL 1 2 5\nR 2 0 1"), ["-9", "0", "9"])
        self.assertEqual(powers("V 1 0 3\nR 1 2 6\nL 2 0 1"), ["-3/2", "3/2", "0"])

    def test_sources_of_voltage(self):
        self.assertEqual(powers("V 1 0 5"), ["0"])
        self.assertEqual(powers("V 0 1 5\nR 1 0 2"), ["-25/2", "25/2"])
        self.assertEqual(powers("V 1 0 -5\nR 1 0 2"), ["-25/2", "25/2"])
        self.assertEqual(powers("V 1 0 0\nR 1 0 2"), ["0", "0"])
        # The lower source takes what the higher one gives.
        self.assertEqual(powers("V 1 0 9\nR 1 2 2\nV 2 0 3"), ["-27", "18", "9"])
        self.assertEqual(powers("V 1 0 9\nR 1 2 2\nV 0 2 -3"), ["-27", "18", "9"])

    def test_sources_of_current(self):
        self.assertEqual(powers("I 0 1 5\nR 1 0 2"), ["-50", "50"])
        self.assertEqual(powers("I 1 0 5\nR 1 0 2"), ["-50", "50"])
        self.assertEqual(powers("I 0 1 -5/3\nR 1 0 2"), ["-50/9", "50/9"])
        self.assertEqual(powers("I 0 1 0\nR 1 0 2"), ["0", "0"])
        self.assertEqual(powers("V 1 0 3\nI 1 0 2"), ["-6", "6"])
        self.assertEqual(powers("V 1 0 3\nI 0 1 2"), ["6", "-6"])
        self.assertEqual(powers("V 1 0 3\nI 0 1 -2/4"), ["-3/2", "3/2"])

    def test_steered_voltages(self):
        self.assertEqual(powers("V 1 0 2\nE 2 0 1 0 -7/3\nR 2 0 4"), ["0", "-49/9", "49/9"])
        self.assertEqual(powers("V 1 0 2\nE 0 2 1 0 3\nR 2 0 4"), ["0", "-9", "9"])
        self.assertEqual(powers("V 1 0 2\nR 1 2 1\nE 2 0 1 0 1/2"), ["-2", "1", "1"])

    def test_steered_currents(self):
        self.assertEqual(powers("V 1 0 2\nG 2 0 1 0 3\nR 2 0 5"), ["0", "-180", "180"])
        self.assertEqual(powers("V 1 0 2\nG 1 0 1 0 3"), ["-12", "12"])
        self.assertEqual(powers("V 1 0 2\nG 0 1 1 0 3/5"), ["12/5", "-12/5"])

    def test_several_together(self):
        self.assertEqual(powers("V 1 0 9\nR 1 2 3\nL 2 3 1\nR 3 0 6\nC 3 0 2"), ["-9", "3", "0", "6", "0"])
        self.assertEqual(powers("C 3 0 2\nR 3 0 6\nL 2 3 1\nR 1 2 3\nV 1 0 9"), ["0", "6", "0", "3", "-9"])

    def test_fractions(self):
        self.assertEqual(powers("V 1 0 2/4\nR 1 0 4/2"), ["-1/8", "1/8"])
        self.assertEqual(powers("V 1 0 6/3\nR 1 0 000010/000020"), ["-8", "8"])
        self.assertEqual(power("V 1 0 999999\nR 1 0 1/999999", 1), str(999999 ** 3))
        self.assertEqual(power("V 1 0 999983/999979\nR 1 0 999961", 1), f"{999983 ** 2}/{999979 ** 2 * 999961}")


class Edges(unittest.TestCase):
    def test_first_and_last_and_beyond(self):
        self.assertEqual(power(GOOD, 0), "-12")
        self.assertEqual(power(GOOD, 2), "4")
        for element in (3, 4, 100, 65535, 65536):
            self.assertEqual(power(GOOD, element), -2)
        self.assertEqual(power(GOOD, -1), -2)

    def test_no_elements(self):
        for text in ("", "\n", "* V 1 0 5\n"):
            for element in (0, 1, 65536):
                self.assertEqual(power(text, element), -2)

    def test_lines_that_say_nothing_have_no_number(self):
        text = "\n* V 1 0 1\nV 1 0 6\n   \n*\nR 1 2 2\n\n\nR 2 0 1\n* R 2 0 1\n\n"
        self.assertEqual([power(text, number) for number in range(4)], ["-12", "8", "4", -2])

    def test_both_nodes_alike(self):
        self.assertEqual(powers("I 0 1 3\nR 1 0 2\nI 1 1 4\nR 1 1 3\nC 1 1 5\nG 1 1 1 0 6"),
                         ["-18", "18", "0", "0", "0", "0"])
        self.assertEqual(powers("I 0 0 3\nR 0 0 2\nC 0 0 2\nG 0 0 0 0 1"), ["0", "0", "0", "0"])

    def test_node_0_first_or_second(self):
        for line in ("R 1 0 2", "R 0 1 2"):
            self.assertEqual(powers("I 0 1 3\n" + line), ["-18", "18"])
            self.assertEqual(powers("I 1 0 3\n" + line), ["-18", "18"])

    def test_eight_together(self):
        self.assertEqual(powers("V 1 0 8\nR 1 2 1\nR 2 3 1\nR 3 4 1"), ["0"] * 4)
        self.assertEqual(powers("V 1 0 8\nR 1 2 1\nR 2 3 1\nR 3 0 2\nR 2 0 3"),
                         ["-128/5", "256/25", "64/25", "128/25", "192/25"])
        self.assertEqual(powers("R 1 0 1\n" * 6 + "I 0 1 1"), ["1/36"] * 6 + ["-1/6"])
        self.assertEqual(powers("I 0 0 7\n" * 8), ["0"] * 8)

    def test_most(self):
        text = "V 1 0 5\nR 1 0 3"
        self.assertEqual(power(text, 0, 5), "-25/3")
        self.assertEqual(power(text, 0, 6), "-25/3")
        self.assertEqual(power(text, 0, 4), -1)
        self.assertEqual(power(text, 1, 4), "25/3")
        self.assertEqual(power(text, 1, 3), -1)
        self.assertEqual(power("R 1 0 1", 0, 1), "0")
        self.assertEqual(power("R 1 0 1", 0, 0), -1)


class Refusals(unittest.TestCase):
    def test_not_just_one_solution(self):
        for text in NO_SOLUTION + MORE_THAN_ONE:
            for number in range(len(second.read(text))):
                self.assertEqual(power(text, number), -5, text)

    def test_refusals_in_their_order(self):
        for text in NO_SOLUTION + MORE_THAN_ONE:
            count = len(second.read(text))
            self.assertEqual(power(text, 0, 0), -5, text)
            self.assertEqual(power(text, count, 0), -2, text)
            self.assertEqual(power(text + "\nx", count, 0), -100 - count, text)
            self.assertEqual(power(text + "\nx", 0, 0), -100 - count, text)
            self.assertEqual(power(text, 0, -1), -2, text)
        self.assertEqual(power(GOOD, 3, 0), -2)
        self.assertEqual(power(GOOD, 0, 0), -1)
        self.assertEqual(power("x", 0, -1), -2)
        self.assertEqual(power("x" * (MOST_BYTES + 1), 0, 0), -2)

    def test_wrong_line_ahead_of_no_such_element(self):
        for text, line in WRONG:
            self.assertEqual(power(text, 65536), -100 - line, text[:100])


class AgainstFractions(unittest.TestCase):
    def agree(self, texts):
        refused = 0
        for text in texts:
            for number in range(len(second.read(text)) + 1):
                told = el_power(number, MOST_BYTES, list(as_bytes(text)))
                self.assertEqual(told, second.answer(second.power, number, MOST_BYTES, text), (number, text))
            refused += power(text, 0) == -5
        return refused

    def test_some_circuits(self):
        refused = self.agree(second.some_circuits(400, 3))
        self.assertGreater(refused, 50)
        self.assertGreater(400 - refused, 100)

    def test_circuits_of_one_sort_of_element_and_resistances(self):
        for letter in "RCLVIEG":
            self.agree(second.some_circuits(30, 4, "RR" + letter))

    def test_what_all_take_together_is_0(self):
        for text in second.some_circuits(200, 5, "RRRRCLVIEG"):
            if power(text, 0) != -5:
                self.assertEqual(sum(map(Fraction, powers(text))), 0, text)


if __name__ == "__main__":
    unittest.main()
