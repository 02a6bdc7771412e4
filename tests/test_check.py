"""el_check: point 1 of the document, and the refusals ahead of it."""

import unittest

import second
from alike import Alike
from circuitsdesk.nodes import el_check
from second import MOST_BYTES, as_bytes


def check(text):
    return el_check(list(as_bytes(text)))


def expected(text):
    return second.answer(second.check, text)


def wrong(line):
    return [-100 - line]


class Ordinary(unittest.TestCase):
    def test_each_element(self):
        self.assertEqual(check("R 1 0 5\n"), [0, 1, 1, 0])
        self.assertEqual(check("C 2 0 5\n"), [0, 2, 1, 1])
        self.assertEqual(check("L 3 0 5\n"), [0, 3, 1, 1])
        self.assertEqual(check("V 4 0 5\n"), [0, 4, 1, 0])
        self.assertEqual(check("I 5 0 5\n"), [0, 5, 1, 0])
        self.assertEqual(check("E 6 0 1 2 5\n"), [0, 6, 1, 0])
        self.assertEqual(check("G 7 0 1 2 5\n"), [0, 7, 1, 0])

    def test_all_together(self):
        text = "V 1 0 10\nR 1 2 1/2\nC 2 0 3\nL 2 3 7/9\nI 0 3 -1\nE 4 0 3 0 -2\nG 0 4 5 1 1/3\nC 4 0 1\n"
        self.assertEqual(check(text), [0, 5, 8, 3])

    def test_greatest_node_in_every_place(self):
        self.assertEqual(check("R 7 1 5"), [0, 7, 1, 0])
        self.assertEqual(check("R 1 7 5"), [0, 7, 1, 0])
        for nodes in ("7 1 2 3", "1 7 2 3", "1 2 7 3", "1 2 3 7"):
            for letter in "EG":
                self.assertEqual(check(f"{letter} {nodes} 5"), [0, 7, 1, 0])

    def test_greatest_node_in_any_line(self):
        self.assertEqual(check("R 6 0 1\nR 2 0 1\nR 3 0 1\n"), [0, 6, 3, 0])
        self.assertEqual(check("R 2 0 1\nR 6 0 1\nR 3 0 1\n"), [0, 6, 3, 0])
        self.assertEqual(check("R 2 0 1\nR 3 0 1\nR 6 0 1\n"), [0, 6, 3, 0])

    def test_values_are_not_nodes(self):
        self.assertEqual(check("R 1 0 8\nV 1 0 7/9\n"), [0, 1, 2, 0])

    def test_a_node_may_be_named_twice_and_nodes_may_be_left_out(self):
        self.assertEqual(check("R 3 3 1\n"), [0, 3, 1, 0])
        self.assertEqual(check("E 0 0 0 0 0\n"), [0, 0, 1, 0])


class Lines(unittest.TestCase):
    def test_empty_text(self):
        self.assertEqual(check(""), [0, 0, 0, 0])

    def test_last_line_with_and_without_its_end(self):
        self.assertEqual(check("R 1 0 5\nC 2 0 5\n"), [0, 2, 2, 1])
        self.assertEqual(check("R 1 0 5\nC 2 0 5"), [0, 2, 2, 1])
        self.assertEqual(check("R 1 0 5\nC 2 0\n"), wrong(1))
        self.assertEqual(check("R 1 0 5\nC 2 0"), wrong(1))

    def test_lines_that_say_nothing(self):
        for text in ("\n", "\n\n\n", " ", "   \n", "*", "*\n", "* R 1 0 5\n", "*R 1 0 5", "*\n \n\n*\xff\x00\t\r*"):
            self.assertEqual(check(text), [0, 0, 0, 0], text)
        self.assertEqual(check("\n*\nR 1 0 5\n \n* C 8 0 1\nC 2 0 5\n\n"), [0, 2, 2, 1])

    def test_any_byte_may_follow_the_star(self):
        for byte in range(256):
            rest = [0, 0, 0, 0] if byte != 10 else wrong(1)
            self.assertEqual(check(b"*" + bytes([byte]) + b"x"), rest, byte)

    def test_star_counts_as_the_first_byte_alone(self):
        for text in (" *", " * R 1 0 5", "R 1 0 5 *", "R 1 0 5*", "R * 0 5", "R 1 0 *"):
            self.assertEqual(check(text), wrong(0), text)

    def test_blanks(self):
        self.assertEqual(check("   R 1 0 5"), [0, 1, 1, 0])
        self.assertEqual(check("R   1  0     5"), [0, 1, 1, 0])
        self.assertEqual(check("R 1 0 5    \n"), [0, 1, 1, 0])
        self.assertEqual(check("  E  1 0  2   3 -4/5  \n   \n  C 1 0 2  "), [0, 3, 2, 1])

    def test_blanks_within_words(self):
        for text in ("R 1 0 1 / 2", "R 1 0 1/ 2", "R 1 0 1 /2", "V 1 0 - 5", "V 1 0 1 0"):
            self.assertEqual(check(text), wrong(0), text)

    def test_blanks_missing(self):
        for text in ("R1 0 5", "R 10 5", "R 1 05", "R105"):
            self.assertEqual(check(text), wrong(0), text)

    def test_other_white_space_is_no_blank(self):
        for sign in "\t\r\x0b\x0c\x00\x1c\x1d\x1e\x1f\x85\xa0":
            self.assertEqual(check(f"R{sign}1 0 5\n"), wrong(0), repr(sign))
            self.assertEqual(check(f"R 1 0 5{sign}\n"), wrong(0), repr(sign))
            self.assertEqual(check(f"R 1 0 5 {sign}\n"), wrong(0), repr(sign))
            self.assertEqual(check(f"{sign}\n"), wrong(0), repr(sign))

    def test_wrong_lines_are_counted_over_all_lines(self):
        self.assertEqual(check("x"), wrong(0))
        self.assertEqual(check("\nx"), wrong(1))
        self.assertEqual(check("\n\n* x\n   \nR 1 0 5\nx\n"), wrong(5))
        self.assertEqual(check("\n" * 65535 + "x"), wrong(65535))

    def test_first_wrong_line_is_told(self):
        self.assertEqual(check("R 1 0 5\nR 1 0 0\nR 1 0\nx\n"), wrong(1))
        self.assertEqual(check("x\n" * 20), wrong(0))


class Limits(unittest.TestCase):
    def test_sixteen_and_a_seventeenth(self):
        self.assertEqual(check("C 1 0 5\n" * 15), [0, 1, 15, 15])
        self.assertEqual(check("C 1 0 5\n" * 16), [0, 1, 16, 16])
        self.assertEqual(check("C 1 0 5\n" * 16 + "\n* C 1 0 5\n  "), [0, 1, 16, 16])
        self.assertEqual(check("C 1 0 5\n" * 17), wrong(16))
        self.assertEqual(check("C 1 0 5\n" * 16 + "*\n\nE 1 0 2 3 5"), wrong(18))

    def test_seventeenth_among_other_wrong_lines(self):
        self.assertEqual(check("C 1 0 5\n" * 16 + "C 1 0 5\nx\n"), wrong(16))
        self.assertEqual(check("C 1 0 5\n" * 16 + "x\nC 1 0 5\n"), wrong(16))
        self.assertEqual(check("C 1 0 5\n" * 15 + "x\n" + "C 1 0 5\n" * 2), wrong(15))

    def test_longest_text(self):
        line = "C 1 0 5\n"
        self.assertEqual(check(line + "*" * (MOST_BYTES - len(line))), [0, 1, 1, 1])
        self.assertEqual(check(line.rjust(MOST_BYTES)), [0, 1, 1, 1])
        self.assertEqual(check("\n" * MOST_BYTES), [0, 0, 0, 0])
        for sign in " *\n":
            self.assertEqual(check(sign * MOST_BYTES), [0, 0, 0, 0])
        for sign in "R0-/":
            self.assertEqual(check(sign * MOST_BYTES), wrong(0))
        self.assertEqual(check("R " * (MOST_BYTES // 2)), wrong(0))
        self.assertEqual(check("V 0 0 ".ljust(MOST_BYTES, "1")), wrong(0))

    def test_too_long_a_text(self):
        for sign in " *\nR":
            self.assertEqual(check(sign * (MOST_BYTES + 1)), [-2])
        self.assertEqual(check("x\n" + "\n" * MOST_BYTES), [-2])
        self.assertEqual(check("\n" * (2 * MOST_BYTES)), [-2])


class Words(unittest.TestCase):
    def test_too_few_or_too_many(self):
        for letter in "RCLVI":
            for count in range(9):
                answer = [0, 1, 1, int(letter in "CL")] if count == 3 else wrong(0)
                self.assertEqual(check(letter + " 1" * count), answer, (letter, count))
        for letter in "EG":
            for count in range(9):
                answer = [0, 1, 1, 0] if count == 5 else wrong(0)
                self.assertEqual(check(letter + " 1" * count), answer, (letter, count))

    def test_only_seven_letters(self):
        for byte in range(256):
            if byte in b"*":
                continue
            word = bytes([byte])
            self.assertEqual(check(word + b" 1 0 5"), expected(word + b" 1 0 5"), byte)
            self.assertEqual(check(word + b" 1 0 1 0 5"), expected(word + b" 1 0 1 0 5"), byte)

    def test_words_that_are_no_element(self):
        for word in ("r", "c", "l", "v", "i", "e", "g", "R1", "RR", "RC", "1", "-", "K", "D"):
            self.assertEqual(check(f"{word} 1 0 5"), wrong(0), word)
            self.assertEqual(check(f"{word} 1 0 1 0 5"), wrong(0), word)

    def test_nodes(self):
        for node in range(9):
            self.assertEqual(check(f"R {node} 0 5"), [0, node, 1, 0])
            self.assertEqual(check(f"G 0 0 0 {node} 5"), [0, node, 1, 0])

    def test_wrong_nodes(self):
        for node in ("9", "10", "00", "01", "-1", "-0", "+1", "1/1", "a", "/", ":", "\xb2", "\xff", "R"):
            for place in range(4):
                nodes = ["0"] * 4
                nodes[place] = node
                self.assertEqual(check("E " + " ".join(nodes) + " 5"), wrong(0), nodes)
                if place < 2:
                    self.assertEqual(check("R " + " ".join(nodes[:2]) + " 5"), wrong(0), nodes)


class Values(unittest.TestCase):
    good_everywhere = ("1", "9", "5", "000001", "999999", "100000", "1/1", "1/999999", "999999/000001",
                       "123456/654321", "000001/100000", "2/4", "1/10", "7/01")
    good_for_sources = ("0", "-0", "000000", "-000000", "-1", "-999999", "0/1", "-0/1", "0/999999", "-1/2",
                        "-999999/999999", "000000/000001", "-000001/000001")
    bad = ("-", "/", "-/", "1/", "/1", "-/1", "-1/", "1/0", "1/00", "1/000000", "0/0", "-1/0", "1000000",
           "0000001", "-1000000", "1/1000000", "1/0000001", "1234567/1", "1/0000000", "1//2", "1/2/", "1/2/3",
           "/1/2", "--1", "1-", "1-1", "-1-", "1/-2", "-1/-2", "+1", "1/+2", "1.5", "1,5", "1e3", "1_0", "0x1",
           "a", "1a", "a1", "1/a", "1/2a", "\xb2", "1\xb2", "1:", ":", "1/:", "\xff", "\x00", "1\x00", "R")

    def test_for_each_element(self):
        for head, above_0 in (("R 1 0", True), ("C 1 0", True), ("L 1 0", True), ("V 1 0", False),
                              ("I 1 0", False), ("E 1 0 1 0", False), ("G 1 0 1 0", False)):
            good = [0, 1, 1, int(head[0] in "CL")]
            for value in self.good_everywhere:
                self.assertEqual(check(f"{head} {value}"), good, (head, value))
            for value in self.good_for_sources:
                self.assertEqual(check(f"{head} {value}"), wrong(0) if above_0 else good, (head, value))
            for value in self.bad:
                self.assertEqual(check(f"{head} {value}"), wrong(0), (head, value))

    def test_how_many_digits(self):
        for above in range(9):
            for below in range(9):
                answer = [0, 1, 1, 0] if 1 <= above <= 6 and 1 <= below <= 6 else wrong(0)
                self.assertEqual(check("R 1 0 " + "1" * above + "/" + "1" * below), answer, (above, below))
                self.assertEqual(check("V 1 0 -" + "1" * above + "/" + "1" * below), answer, (above, below))


class AgainstPatterns(unittest.TestCase):
    base = b"V 1 0 -12/3\n*\n E 4 0 2 3  5\nC 8 0 7/20"

    def agree(self, text):
        self.assertEqual(el_check(list(text)), expected(text), text)

    def test_each_byte_in_each_place(self):
        for place in range(len(self.base)):
            for byte in range(256):
                self.agree(self.base[:place] + bytes([byte]) + self.base[place + 1:])

    def test_each_byte_put_between(self):
        for place in range(len(self.base) + 1):
            for byte in range(256):
                self.agree(self.base[:place] + bytes([byte]) + self.base[place:])

    def test_each_stretch_left_out(self):
        for start in range(len(self.base)):
            for end in range(start, len(self.base) + 1):
                self.agree(self.base[:start] + self.base[end:])

    def test_all_short_values(self):
        words = [b""]
        for length in range(5):
            words = [word + bytes([byte]) for word in words for byte in b"0 19-/"]
            for word in words:
                self.agree(b"R 0 1 " + word)
                self.agree(b"I 0 1 " + word)

    def test_all_short_texts(self):
        texts = [b""]
        for length in range(7):
            texts = [text + bytes([byte]) for text in texts for byte in b"L1 *\n"]
            for text in texts:
                self.agree(text)


class Calls(Alike, unittest.TestCase):
    def ask(self, text):
        return el_check(text)


if __name__ == "__main__":
    unittest.main()
