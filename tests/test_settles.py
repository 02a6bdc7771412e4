"""el_settles: point 5 of the document, and the refusals ahead."""

import unittest
from fractions import Fraction

import second
from alike import WRONG, Alike
from circuitsdesk.nodes import el_settles
from second import MOST_BYTES, as_bytes

# s^3 + (a + b) s^2 + (a b + 2) s + (a + b + c)
THIRD_DEGREE = "C 1 0 1\nC 2 0 1\nL 1 2 1\nG 1 0 1 0 {}\nG 2 0 2 0 {}\nG 1 0 2 0 {}"
# s^2 + (a + d) s + (a d - b c)
SECOND_DEGREE = "C 1 0 1\nC 2 0 1\nG 1 0 1 0 {}\nG 1 0 2 0 {}\nG 2 0 1 0 {}\nG 2 0 2 0 {}"
# (s^2 + a s + 1) (s^2 + b s + 1)
FOURTH_DEGREE = "C 1 0 1\nL 1 0 1\nC 2 0 1\nL 2 0 1\nG 1 0 1 0 {}\nG 2 0 2 0 {}"


def settles(text):
    """The one number that is answered."""
    answer = el_settles(list(as_bytes(text)))
    assert len(answer) == 1
    return answer[0]


def degree(text):
    return len(second.determinant_in_s(second.read(text))) - 1


class Calls(Alike, unittest.TestCase):
    kept = Alike.kept + (THIRD_DEGREE.format(1, 1, 0), THIRD_DEGREE.format(1, 1, 4), "C 1 0 1\n", "V 1 0 1\nV 1 0 1")

    def ask(self, text):
        return el_settles(text)


class Ordinary(unittest.TestCase):
    def test_capacitors(self):
        self.assertEqual(settles("V 1 0 1\nR 1 2 1\nC 2 0 1"), 1)
        self.assertEqual(settles("C 1 0 5\nR 1 0 7"), 1)
        self.assertEqual(settles("C 1 0 5"), 0)
        self.assertEqual(settles("I 0 1 1\nC 1 0 5"), 0)
        self.assertEqual(settles("V 1 0 1\nC 1 0 5"), 1)
        self.assertEqual(settles("V 1 0 1\nC 1 2 5\nC 2 0 3"), 0)

    def test_coils(self):
        self.assertEqual(settles("V 1 0 1\nR 1 2 1\nL 2 0 1"), 1)
        self.assertEqual(settles("L 1 0 5\nR 0 1 7"), 1)
        # Nothing flows through it, and the determinant has no s in it.
        self.assertEqual(settles("L 1 0 5"), 1)
        self.assertEqual(settles("V 1 0 1\nL 1 0 5"), 0)
        self.assertEqual(settles("L 1 0 5\nL 1 0 3\nR 1 0 1"), 0)
        self.assertEqual(settles("L 0 0 5"), 0)

    def test_both(self):
        self.assertEqual(settles("V 1 0 1\nL 1 2 1\nC 2 3 1\nR 3 0 1"), 1)
        self.assertEqual(settles("L 1 0 2\nC 1 0 3\nR 1 0 5"), 1)
        self.assertEqual(settles("L 1 0 2\nC 1 0 3"), 0)
        self.assertEqual(settles("V 1 0 1\nL 1 2 1\nC 2 0 1"), 0)

    def test_steered_ones(self):
        self.assertEqual(settles("C 1 0 1\nG 1 0 1 0 1"), 1)
        self.assertEqual(settles("C 1 0 1\nG 1 0 1 0 0"), 0)
        self.assertEqual(settles("C 1 0 1\nG 1 0 1 0 -1"), 0)
        self.assertEqual(settles("C 1 0 1\nG 0 1 1 0 -1/9"), 1)
        self.assertEqual(settles("C 1 0 1\nR 1 2 1\nE 2 0 1 0 1/2"), 1)
        self.assertEqual(settles("C 1 0 1\nR 1 2 1\nE 2 0 1 0 1"), 0)
        self.assertEqual(settles("C 1 0 1\nR 1 2 1\nE 2 0 1 0 2"), 0)
        self.assertEqual(settles("L 1 0 1\nG 1 0 1 0 1"), 1)
        self.assertEqual(settles("L 1 0 1\nG 1 0 1 0 -1"), 0)

    def test_no_s_in_it(self):
        for text in ("", "\n* C 1 0 1\n", "R 1 0 5", "V 1 0 6\nR 1 2 2\nR 2 0 1", "V 1 0 1", "I 0 0 3",
                     "V 1 0 1\nC 1 0 1", "C 0 0 5", "E 1 0 1 0 2", "E 1 0 1 0 -2", "G 1 0 1 0 -5",
                     "V 0 1 1\nR 1 2 1\nR 2 0 1"):
            self.assertEqual(degree(text), 0)
            self.assertEqual(settles(text), 1, text)

    def test_lines_in_any_order_and_turned_elements(self):
        lines = ["V 1 0 1", "L 1 2 1", "C 2 3 1", "R 3 0 1"]
        for first in range(4):
            order = lines[first:] + lines[:first]
            self.assertEqual(settles("\n".join(order)), 1)
            self.assertEqual(settles("\n".join(reversed(order))), 1)
        self.assertEqual(settles("V 0 1 1\nL 2 1 1\nC 3 2 1\nR 0 3 1"), 1)
        self.assertEqual(settles("C 0 1 1\nG 1 0 0 1 1"), 0)
        self.assertEqual(settles("C 0 1 1\nG 0 1 0 1 1"), 1)

    def test_values_of_sources_do_not_count(self):
        for value in ("0", "-0", "1", "-5", "2/3", "-999999/7"):
            self.assertEqual(settles(f"V 1 0 {value}\nR 1 2 1\nC 2 0 1"), 1)
            self.assertEqual(settles(f"I 0 1 {value}\nR 1 0 1\nC 1 0 1"), 1)
            self.assertEqual(settles(f"I 0 1 {value}\nC 1 0 1"), 0)
            self.assertEqual(settles(f"V 1 0 {value}\nL 1 0 1"), 0)
            self.assertEqual(settles(f"V 1 0 {value}\nV 1 0 {value}"), -5)


class Table(unittest.TestCase):
    def test_one_row(self):
        for value, answer in (("3", 1), ("1/999999", 1), ("0", 0), ("-1/999999", 0), ("-3", 0)):
            text = f"C 1 0 2\nG 1 0 1 0 {value}"
            self.assertEqual(degree(text), 1)
            self.assertEqual(settles(text), answer, value)

    def test_two_rows(self):
        cases = (
            ((1, 0, 0, 1), 1),
            ((1, 1, -1, 1), 1),
            ((-1, 2, -2, 2), 1),
            # d1 is 0, then below 0
            ((0, 1, -1, 0), 0),
            ((1, 2, -2, -1), 0),
            ((-1, 0, 0, -1), 0),
            ((-1, 0, 0, "1/2"), 0),
            # d1 is above 0, d0 is 0, then below 0
            ((1, 1, 1, 1), 0),
            ((1, 0, 0, 0), 0),
            ((1, 2, 1, 1), 0),
            ((2, 0, 0, -1), 0),
            # just before and just behind
            ((1, "999998/999999", 1, 1), 1),
            ((1, "999999/999998", 1, 1), 0),
        )
        for values, answer in cases:
            text = SECOND_DEGREE.format(*values)
            self.assertEqual(degree(text), 2)
            self.assertEqual(settles(text), answer, values)

    def test_three_rows(self):
        cases = (
            ((1, 1, 0), 1),
            ((1, 1, "39/10"), 1),
            # the determinant of two rows is 0, then below 0
            ((1, 1, 4), 0),
            ((1, 1, "41/10"), 0),
            ((2, 1, "9"), 0),
            ((2, 1, "899999/100000"), 1),
            # that of three rows alone is 0, then below 0
            ((1, 1, -2), 0),
            ((1, 1, "-19/10"), 1),
            ((1, 1, "-21/10"), 0),
            # that of one row is 0, then below 0
            ((1, -1, 1), 0),
            ((0, 0, 0), 0),
            ((-1, -1, 3), 0),
            ((-1, -1, 0), 0),
            # all coefficients are above 0, but d1 is not enough
            (("3/2", -1, "1/2"), 0),
        )
        for values, answer in cases:
            text = THIRD_DEGREE.format(*values)
            self.assertEqual(degree(text), 3)
            self.assertEqual(settles(text), answer, values)

    def test_four_rows(self):
        cases = (((1, 1), 1), ((1, "1/999999"), 1), ((1, 0), 0), ((1, "-1/2"), 0), ((3, -1), 0), ((1, -1), 0),
                 ((0, 0), 0), ((-1, -1), 0), ((5, "1/7"), 1))
        for values, answer in cases:
            text = FOURTH_DEGREE.format(*values)
            self.assertEqual(degree(text), 4)
            self.assertEqual(settles(text), answer, values)
        self.assertEqual(settles("C 1 0 1\nL 1 2 1\nC 2 0 1\nL 2 3 1\nR 3 0 1"), 1)
        self.assertEqual(settles("C 1 0 1\nL 1 2 1\nC 2 0 1\nL 2 3 1\nG 3 0 3 0 -1"), 0)
        # Two coils side by side: a current may stay in them for ever, and only the last determinant tells.
        self.assertEqual(settles("C 1 0 1\nL 1 0 1\nL 1 0 1\nC 2 0 1\nR 1 0 1\nR 1 2 1"), 0)

    def test_more_rows(self):
        text = "C 1 0 1\nL 1 2 1\nC 2 0 1\nL 2 3 1\nC 3 0 1"
        self.assertEqual(degree(text), 5)
        self.assertEqual(settles(text), 0)
        text = "L 0 0 1\n" * 8
        self.assertEqual(degree(text), 8)
        self.assertEqual(settles(text), 0)

    def test_highest_coefficient_below_0_is_turned(self):
        # As the signs of the rows fall, some of these have a determinant whose highest coefficient is below 0.
        for count in range(6):
            text = "C 1 0 1\nG 1 0 1 0 1\n" + "I 0 1 1\n" * count
            self.assertEqual(settles(text), 1)
            self.assertEqual(settles(text.replace("G 1 0 1 0 1", "G 1 0 1 0 -1")), 0)
        self.assertEqual(settles("C 1 0 1\nR 1 0 1\nE 2 0 2 0 2"), 1)
        self.assertEqual(settles("C 1 0 1\nR 1 0 1\nE 2 0 2 0 1/2"), 1)
        self.assertEqual(settles("C 1 0 1\nR 1 0 1\nG 2 0 2 0 -1"), 1)
        self.assertEqual(settles("C 1 0 1\nR 1 0 1\nG 2 0 2 0 1"), 1)
        self.assertEqual(settles("L 1 0 1\nG 1 0 1 0 1\nE 2 0 2 0 2"), 1)
        self.assertEqual(settles("L 1 0 1\nG 1 0 1 0 -1\nE 2 0 2 0 2"), 0)


class Edges(unittest.TestCase):
    def test_determinant_is_0(self):
        for text in ("V 1 0 1\nV 1 0 1", "V 1 0 1\nV 1 0 2", "I 0 1 1", "I 0 1 0", "R 2 0 1", "R 1 2 1", "C 1 2 1",
                     "V 0 0 0", "V 0 0 5", "E 0 0 0 0 1", "R 1 1 1", "G 1 0 1 0 0", "E 1 0 1 0 1",
                     "R 1 0 1\nG 1 0 2 0 1", "G 0 1 1 0 1\nR 1 0 1", "E 2 0 1 0 2\nC 1 2 1\nC 1 0 1",
                     "V 1 2 1\nV 2 3 1\nV 3 1 1\nR 1 0 1"):
            self.assertEqual(settles(text), -5, text)

    def test_not_one_solution_at_rest_is_no_refusal(self):
        for text in ("C 1 0 5", "V 1 0 3\nL 1 0 1", "L 1 0 1\nL 1 0 2", "R 1 0 1\nC 1 2 1"):
            self.assertEqual(second.answer(second.volts, MOST_BYTES, text), [-5])
            self.assertEqual(settles(text), 0, text)

    def test_refusals_in_their_order(self):
        self.assertEqual(settles("R 2 0 1\nx"), -101)
        self.assertEqual(settles("x\nV 0 0 0"), -100)
        self.assertEqual(settles("V 0 0 0\n" * 17), -116)
        self.assertEqual(settles("V 0 0 0\n" + "x" * MOST_BYTES), -2)
        for text, line in WRONG:
            self.assertEqual(settles(text), -100 - line, text[:100])

    def test_eight_together(self):
        self.assertEqual(settles("V 1 0 8\nR 1 2 1\nR 2 3 1\nC 3 4 1"), 0)
        self.assertEqual(settles("V 1 0 8\nR 1 2 1\nC 2 3 1\nL 3 0 1\nR 2 0 3"), 1)
        self.assertEqual(settles("R 1 0 1\n" * 3 + "C 1 0 1\n" * 3 + "L 1 0 7"), 1)
        self.assertEqual(settles("I 0 0 7\n" * 8), 1)
        self.assertEqual(settles("C 0 0 7\n" * 8), 1)


class AgainstRouth(unittest.TestCase):
    def agree(self, texts):
        counts = {-5: 0, 0: 0, 1: 0}
        for text in texts:
            answer = el_settles(list(as_bytes(text)))
            self.assertEqual(answer, second.answer(second.settles, text), text)
            counts[answer[0]] += 1
        return counts

    def test_some_circuits(self):
        counts = self.agree(second.some_circuits(500, 9))
        self.assertGreater(min(counts.values()), 50)

    def test_circuits_with_many_capacitors_and_coils(self):
        for seed, letters in ((10, "CLCLGGR"), (11, "CLCLCLGR"), (12, "CLCLGGGE"), (13, "RCL")):
            counts = self.agree(second.some_circuits(120, seed, letters))
            self.assertGreater(counts[0], 10)
            self.assertGreater(counts[1], 5)

    def test_all_of_the_third_degree(self):
        values = [Fraction(number, 2) for number in range(-4, 5)]
        texts = [THIRD_DEGREE.format(a, b, c) for a in values[2:] for b in values[3:7] for c in values]
        counts = self.agree(texts)
        self.assertGreater(min(counts[0], counts[1]), 50)

    def test_some_of_the_second_degree(self):
        texts = [SECOND_DEGREE.format(a, b, c, d)
                 for a in (-1, 0, 2) for b in (-1, 0, 1) for c in (-2, 1) for d in (-1, 0, 1, 3)]
        counts = self.agree(texts)
        self.assertGreater(min(counts[0], counts[1]), 10)


if __name__ == "__main__":
    unittest.main()
