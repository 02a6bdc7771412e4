"""el_signal: point 4 of the document, what point 6 says of it, and the refusals ahead."""

import unittest
from fractions import Fraction

import second
from alike import WRONG, Alike, bytes_told
from circuitsdesk.nodes import el_signal
from second import MOST_BYTES, as_bytes

LOW_PASS = "V 1 0 10\nR 1 2 1/2\nC 2 0 3\n"


def signal(text, a=1, b=0, source=0, most=MOST_BYTES):
    """What is told, as a text; or the refusal."""
    return bytes_told(el_signal(source, a, b, most, list(as_bytes(text))))


class Calls(Alike, unittest.TestCase):
    def ask(self, text):
        return el_signal(0, 1, 0, MOST_BYTES, text)


class CallsOnAnotherSource(Alike, unittest.TestCase):
    kept = Alike.kept + ("R 1 0 2\nC 1 2 3\nV 2 0 5", "L 1 0 1\nC 1 0 2\nI 0 1 5")

    def ask(self, text):
        return el_signal(2, 1, 0, MOST_BYTES, text)


class Ordinary(unittest.TestCase):
    def test_bytes(self):
        text = list(as_bytes(LOW_PASS))
        self.assertEqual(el_signal(0, 2, 0, MOST_BYTES, text), [7] + list(b"2 / 2 3"))
        self.assertEqual(el_signal(0, 1, 2, MOST_BYTES, text), [9] + list(b"0 3 / 2 3"))

    def test_source_of_voltage(self):
        self.assertEqual(signal("V 1 0 7"), "1 / 1")
        self.assertEqual(signal("V 0 1 7"), "-1 / 1")
        self.assertEqual(signal("V 1 0 6\nR 1 2 2\nR 2 0 1", 2), "1 / 3")
        self.assertEqual(signal("V 1 0 6\nR 1 2 2\nR 2 0 1", 1, 2), "2 / 3")

    def test_source_of_current(self):
        self.assertEqual(signal("I 0 1 5\nR 1 0 2"), "2 / 1")
        self.assertEqual(signal("I 1 0 5\nR 1 0 2"), "-2 / 1")
        self.assertEqual(signal("I 0 1 5\nR 1 0 2/3"), "2 / 3")

    def test_capacitors(self):
        self.assertEqual(signal(LOW_PASS, 2), "2 / 2 3")
        self.assertEqual(signal("I 0 1 1\nC 1 0 5"), "1 / 0 5")
        self.assertEqual(signal("I 0 1 1\nC 1 0 5/7"), "7 / 0 5")
        self.assertEqual(signal("V 1 0 1\nC 1 2 2\nR 2 0 3", 2), "0 6 / 1 6")

    def test_coils(self):
        self.assertEqual(signal("V 1 0 1\nL 1 2 1/2\nR 2 0 3", 2), "6 / 6 1")
        self.assertEqual(signal("I 0 1 1\nL 1 0 5"), "0 5 / 1")
        self.assertEqual(signal("I 0 1 1\nL 1 0 5/7"), "0 5 / 7")

    def test_capacitors_and_coils(self):
        self.assertEqual(signal("V 1 0 1\nL 1 2 1\nC 2 0 1", 2), "1 / 1 0 1")
        self.assertEqual(signal("V 1 0 1\nL 1 2 1\nC 2 3 1\nR 3 0 1", 3), "0 1 / 1 1 1")
        self.assertEqual(signal("V 1 0 1\nL 1 2 1\nC 2 3 1\nR 3 0 1", 1, 3), "1 0 1 / 1 1 1")
        self.assertEqual(signal("I 0 1 1\nL 1 0 2\nC 1 0 3\nR 1 0 5"), "0 10 / 5 2 30")

    def test_steered_voltages(self):
        self.assertEqual(signal("V 1 0 1\nR 1 2 1\nC 2 0 1\nE 3 0 2 0 -4", 3), "-4 / 1 1")
        self.assertEqual(signal("V 1 0 1\nR 1 2 1\nC 2 0 1\nE 3 0 1 2 4", 3), "0 4 / 1 1")

    def test_steered_currents(self):
        self.assertEqual(signal("V 1 0 1\nG 2 0 1 0 3\nR 2 0 5\nC 2 0 2", 2), "-15 / 1 10")
        self.assertEqual(signal("V 1 0 1\nG 0 2 1 0 3/7\nC 2 0 2", 2), "3 / 0 14")

    def test_several_sources(self):
        text = "V 1 0 10\nR 1 2 1\nV 3 0 999/7\nR 3 2 1\nI 0 2 -5"
        for source in (0, 2, 4):
            self.assertEqual(signal(text, 2, 0, source), "1 / 2")
        self.assertEqual([signal(text, 1, 3, source) for source in (0, 2, 4)], ["1 / 1", "-1 / 1", "0 / 1"])
        text = "I 0 1 3\nC 1 0 1\nR 1 2 4\nI 0 2 7\nR 2 0 1"
        self.assertEqual([signal(text, 1, 0, 0), signal(text, 1, 0, 3)], ["5 / 1 5", "1 / 1 5"])
        self.assertEqual([signal(text, 2, 0, 0), signal(text, 2, 0, 3)], ["1 / 1 5", "1 4 / 1 5"])

    def test_values_of_sources_do_not_count(self):
        for own in ("0", "-0", "1", "-5", "2/3", "-999999/7"):
            for other in ("0", "3", "-4/5"):
                text = f"V 1 0 {own}\nR 1 2 1/2\nC 2 0 3\nI 0 2 {other}"
                self.assertEqual(signal(text, 2, 0, 0), "2 / 2 3")
                self.assertEqual(signal(text, 2, 0, 3), "1 / 2 3")

    def test_values_of_steered_ones_do_count(self):
        self.assertEqual(signal("V 1 0 1\nE 2 0 1 0 5\nI 0 2 3", 2), "5 / 1")
        self.assertEqual(signal("V 1 0 1\nG 0 2 1 0 5\nR 2 0 1", 2), "5 / 1")


class Form(unittest.TestCase):
    def test_upper_one_is_0(self):
        self.assertEqual(signal(LOW_PASS, 1, 1), "0 / 1")
        self.assertEqual(signal("V 1 0 5\nR 2 0 7\nC 2 0 3", 2), "0 / 1")
        self.assertEqual(signal("I 0 1 5\nE 1 0 0 0 7"), "0 / 1")

    def test_no_common_factor(self):
        self.assertEqual(signal("V 1 0 1\nR 1 2 1\nC 1 2 2\nR 2 0 3\nC 2 0 2/3", 2), "3 / 4")
        self.assertEqual(signal("V 1 0 1\nL 1 2 1\nL 1 2 1\nL 2 0 1\nL 2 0 1\nC 2 0 1", 2), "2 / 4 0 1")
        self.assertEqual(signal("I 0 1 10\nL 1 0 1\nC 1 0 1\nC 1 0 3\nL 1 0 7\nR 1 0 1\nC 1 0 1"), "0 7 / 8 7 35")
        # What another part of the circuit adds to the determinant falls away again.
        self.assertEqual(signal("V 1 0 1\nR 2 0 5\nC 2 0 3\nL 2 0 7"), "1 / 1")

    def test_no_common_divisor_over_both(self):
        self.assertEqual(signal("I 0 1 1\nC 1 0 2\nR 1 0 1/2"), "1 / 2 2")
        self.assertEqual(signal("I 0 1 1\nC 1 0 1/6\nR 1 0 6"), "6 / 1 1")
        self.assertEqual(signal("I 0 1 1\nC 1 0 4/6\nR 1 0 6/4"), "3 / 2 2")
        self.assertEqual(signal("V 1 0 1\nR 1 2 4\nC 2 0 6/8\nR 2 0 4", 2), "1 / 2 3")

    def test_lower_ones_highest_is_above_0(self):
        self.assertEqual(signal("I 0 1 1\nG 1 0 1 0 -1\nC 1 0 1"), "1 / -1 1")
        self.assertEqual(signal("I 1 0 1\nG 1 0 1 0 -1\nC 1 0 1"), "-1 / -1 1")
        self.assertEqual(signal("I 0 1 1\nG 1 0 1 0 -1\nR 1 0 2"), "-2 / 1")
        self.assertEqual(signal("I 0 1 1\nG 1 0 1 0 -1\nL 1 0 2"), "0 -2 / -1 2")
        self.assertEqual(signal("I 0 1 1\nL 1 0 2\nG 1 0 1 0 -1\nC 1 0 3"), "0 2 / 1 -2 6")

    def test_coefficients_within_that_are_0(self):
        self.assertEqual(signal("V 1 0 1\nL 1 2 1\nC 2 0 1\nL 2 3 1\nC 3 0 1", 3), "1 / 1 0 3 0 1")
        self.assertEqual(signal("V 1 0 1\nL 1 2 1\nC 2 0 1\nL 2 3 1\nC 3 0 1", 2), "1 0 1 / 1 0 3 0 1")
        self.assertEqual(signal("V 1 0 1\nL 1 2 1\nC 2 0 1\nL 2 3 1\nC 3 0 1", 1, 3), "0 0 3 0 1 / 1 0 3 0 1")

    def test_coefficients_below_0(self):
        self.assertEqual(signal("V 1 0 1\nR 1 2 1\nC 2 0 1\nE 3 0 2 0 2", 3, 1), "1 -1 / 1 1")
        self.assertEqual(signal("V 1 0 1\nR 1 2 1\nC 2 0 1\nE 3 0 2 0 2", 1, 3), "-1 1 / 1 1")

    def test_large_numbers(self):
        self.assertEqual(signal("V 1 0 1\nR 1 2 999999/999998\nC 2 0 999997/999983", 2),
                         f"{999998 * 999983} / {999998 * 999983} {999999 * 999997}")


class Edges(unittest.TestCase):
    def test_a_and_b(self):
        self.assertEqual(signal(LOW_PASS, 0, 0), "0 / 1")
        self.assertEqual(signal(LOW_PASS, 2, 2), "0 / 1")
        self.assertEqual(signal(LOW_PASS, 0, 2), "-2 / 2 3")
        self.assertEqual(signal(LOW_PASS, 2, 0), "2 / 2 3")
        self.assertEqual(signal(LOW_PASS, 2, 1), "0 -3 / 2 3")
        for node in (3, 4, 8, 9, 65536, -1):
            self.assertEqual(signal(LOW_PASS, node, 0), -2)
            self.assertEqual(signal(LOW_PASS, 0, node), -2)
            self.assertEqual(signal(LOW_PASS, node, node), -2)

    def test_greatest_node_0(self):
        for text in ("I 0 0 5", "I 0 0 5\nR 0 0 2\nG 0 0 0 0 2\nC 0 0 1\nL 0 0 1", "I 0 0 5" + "\nC 0 0 1" * 7):
            self.assertEqual(signal(text, 0, 0), "0 / 1")
            self.assertEqual(signal(text, 0, 1), -2)
            self.assertEqual(signal(text, 1, 0), -2)

    def test_source(self):
        text = "R 1 0 1\nC 1 0 1\nL 1 0 1\nE 2 0 1 0 1\nG 2 0 1 0 1\nI 0 1 1"
        for source in (0, 1, 2, 3, 4, 6, 7, 65535, 65536, -1):
            self.assertEqual(signal(text, 1, 0, source), -2)
        self.assertEqual(signal(text, 1, 0, 5), "0 1 / 1 1 1")
        self.assertEqual(signal("* V 1 0 1\n\n" + text, 1, 0, 5), "0 1 / 1 1 1")
        for text in ("", "\n", "* V 1 0 5"):
            self.assertEqual(signal(text, 0, 0, 0), -2)

    def test_eight_together(self):
        self.assertEqual(signal("V 1 0 1\nL 1 2 1\nC 2 3 1\nL 3 4 1", 4), "1 / 1")
        self.assertEqual(signal("I 0 1 1\nC 1 2 1\nL 2 3 2\nC 3 0 3"), "4 0 6 / 0 3")
        self.assertEqual(signal("I 0 1 1" + "\nC 1 0 1\nL 1 0 1" * 3), "0 1 / 3 0 3")
        self.assertEqual(signal("I 0 1 1" + "\nC 1 0 999999/999998" * 6), f"{999998 // 2} / 0 {999999 * 3}")
        self.assertEqual(signal("I 0 1 1\nL 1 2 1\nC 2 0 1\nC 1 0 1\nL 2 0 1\nC 1 2 1"), "0 2 / 1 0 3")
        self.assertEqual(signal("I 0 1 1\nL 1 2 1\nC 2 0 2\nC 1 0 1\nL 2 0 3\nC 1 2 1"), "0 4 0 9 / 1 0 11 0 15")

    def test_most(self):
        self.assertEqual(signal(LOW_PASS, 2, 0, 0, 7), "2 / 2 3")
        self.assertEqual(signal(LOW_PASS, 2, 0, 0, 8), "2 / 2 3")
        for most in (6, 5, 1, 0):
            self.assertEqual(signal(LOW_PASS, 2, 0, 0, most), -1)
        self.assertEqual(signal(LOW_PASS, 1, 1, 0, 5), "0 / 1")
        self.assertEqual(signal(LOW_PASS, 1, 1, 0, 4), -1)


class Refusals(unittest.TestCase):
    never = ("V 1 0 1\nV 1 0 1", "V 1 0 1\nV 1 0 2", "I 0 1 1", "I 0 1 0", "V 1 0 1\nR 3 0 1", "V 1 2 1",
             "V 1 0 1\nG 1 0 2 0 5", "V 1 0 1\nE 1 0 1 0 5", "I 0 1 1\nG 0 1 1 0 1\nR 1 0 1", "V 1 1 1\nR 1 0 1",
             "V 1 2 1\nV 2 3 1\nV 3 1 1\nR 1 0 1", "I 0 1 1\nI 1 0 1", "I 0 1 1\nC 2 1 1",
             # What flows into one capacitor flows out of the other, whatever s is.
             "I 0 1 1\nE 2 0 1 0 2\nC 1 2 1\nC 1 0 1")
    not_at_rest = (("I 0 1 1\nC 1 0 1", "1 / 0 1"), ("V 1 0 1\nL 1 0 1", "1 / 1"),
                   ("I 0 1 1\nL 1 0 1\nL 1 0 1", "0 1 / 2"), ("V 1 0 1\nC 1 2 1\nC 2 0 1", "1 / 1"))

    def test_not_just_one_solution(self):
        for text in self.never:
            self.assertEqual(signal(text), -5, text)
            self.assertEqual(signal(text, 1, 1), -5, text)

    def test_just_one_solution_but_not_at_rest(self):
        for text, told in self.not_at_rest:
            self.assertEqual(second.answer(second.volts, MOST_BYTES, text), [-5])
            self.assertEqual(signal(text), told, text)

    def test_refusals_in_their_order(self):
        for text in self.never:
            count = len(second.read(text))
            self.assertEqual(signal(text, 1, 0, 0, 0), -5, text)
            self.assertEqual(signal(text, 4, 0, 0, 0), -2, text)
            self.assertEqual(signal(text, 0, 4, 0, 0), -2, text)
            self.assertEqual(signal(text, 0, 0, count, 0), -2, text)
            self.assertEqual(signal(text + "\nx", 4, 4, count, 0), -100 - count, text)
            self.assertEqual(signal(text, 1, 0, 0, -1), -2, text)
        self.assertEqual(signal(LOW_PASS, 3, 0, 0, 0), -2)
        self.assertEqual(signal(LOW_PASS, 0, 3, 0, 0), -2)
        self.assertEqual(signal(LOW_PASS, 0, 0, 1, 0), -2)
        self.assertEqual(signal(LOW_PASS, 0, 0, 0, 0), -1)
        self.assertEqual(signal("x", 0, 0, 0, -1), -2)
        self.assertEqual(signal("x" * (MOST_BYTES + 1), 0, 0, 0, 0), -2)
        self.assertEqual(signal("I 0 1 1\nV 1 1 1\nR 1 0 1", 1, 0, 2), -2)

    def test_wrong_line_ahead_of_no_such_source_or_node(self):
        for text, line in WRONG:
            self.assertEqual(signal(text, 65536, 65536, 65536), -100 - line, text[:100])


class AgainstFractions(unittest.TestCase):
    def agree(self, texts):
        """How often -2, -5 and something else was told."""
        counts = {-2: 0, -5: 0, 0: 0}
        for text in texts:
            circuit = second.read(text)
            last = second.greatest(circuit)
            for source in range(len(circuit) + 1):
                for a, b in ((1, 0), (last, 1), (0, last), (last + 1, 0)):
                    told = el_signal(source, a, b, MOST_BYTES, list(as_bytes(text)))
                    self.assertEqual(told, second.answer(second.signal, source, a, b, MOST_BYTES, text),
                                     (source, a, b, text))
                    counts[min(told[0], 0)] += 1
        return counts

    def test_some_circuits(self):
        counts = self.agree(second.some_circuits(300, 6, "RRCLVIEG"))
        self.assertGreater(min(counts.values()), 200)

    def test_circuits_with_many_capacitors_and_coils(self):
        counts = self.agree(second.some_circuits(150, 7, "CLCLCLVIR"))
        self.assertGreater(min(counts.values()), 100)

    def test_at_0_the_signal_is_as_at_rest(self):
        for text in second.some_circuits(300, 8, "RRRRCLV"):
            circuit = [(letter, nodes, Fraction(1) if letter == "V" else value)
                       for letter, nodes, value in second.read(text)]
            letters = [letter for letter, nodes, value in circuit]
            if letters.count("V") != 1 or second.solve(circuit, 0)[0] == 0:
                continue
            voltage = second.at_rest(circuit)[0][1]
            upper, lower = signal(text, 1, 0, letters.index("V")).split(" / ")
            self.assertEqual(Fraction(int(upper.split()[0]), int(lower.split()[0])), voltage, text)


if __name__ == "__main__":
    unittest.main()
