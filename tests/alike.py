"""What all calls on a circuit do alike; the tests of each call take this in, and say by `ask` how it is called."""

from second import MOST_BYTES, Unchanged, as_bytes


def bytes_told(answer):
    """What a call that tells bytes has told, as a text; or the refusal."""
    if len(answer) == 1 and answer[0] < 0:
        return answer[0]
    if answer[0] != len(answer) - 1:
        raise AssertionError(f"{answer[0]} bytes are said, {len(answer) - 1} are told")
    return bytes(answer[1:]).decode("ascii")


GOOD = "V 1 0 6\nR 1 2 2\nR 2 0 1\n"

# Each wrong text, with the number of its first wrong line.
WRONG = (
    ("x", 0), ("R", 0), ("R 1 0", 0), ("R 1 0 5 5", 0), ("R 1 0 1 0 5", 0), ("E 1 0 5", 0), ("G 1 0 1 0 5 5", 0),
    ("r 1 0 5", 0), ("RR 1 0 5", 0), ("R1 0 5", 0), ("K 1 0 5", 0), ("R 9 0 5", 0), ("R 1 9 5", 0), ("R 10 0 5", 0),
    ("E 1 0 9 0 5", 0), ("G 1 0 0 9 5", 0), ("R -1 0 5", 0), ("R a 0 5", 0),
    ("R 1 0 0", 0), ("C 1 0 0", 0), ("L 1 0 0", 0), ("R 1 0 -5", 0), ("C 1 0 -5", 0), ("L 1 0 -5", 0),
    ("R 1 0 0/5", 0), ("V 1 0 5/0", 0), ("V 1 0 5/000000", 0), ("V 1 0 1234567", 0), ("V 1 0 1/1234567", 0),
    ("V 1 0 --5", 0), ("V 1 0 +5", 0), ("V 1 0 5/-2", 0), ("V 1 0 5/", 0), ("V 1 0 /5", 0), ("V 1 0 -", 0),
    ("V 1 0 1.5", 0), ("V 1 0 1e3", 0), ("V 1 0 1/2/3", 0), ("V 1 0 \xb2", 0), ("V 1 0 1\x00", 0),
    (" * a remark", 0), ("R\t1 0 5", 0), ("R 1 0 5\r\n", 0), ("\xff", 0),
    (GOOD + "x", 3), (GOOD + "\n* x\n   \nx\n", 6), ("x\n" + GOOD, 0), (GOOD + "R 1 0 0\nx\n", 3),
    ("R 0 0 5\n" * 17, 16), ("R 0 0 5\n" * 16 + "\n*\nR 0 0 5", 18), ("R 0 0 5\n" * 15 + "x\n", 15),
    ("\n" * 65535 + "x", 65535), ("1" * MOST_BYTES, 0),
    # A node alone with a source of current: no solution, but that is found behind a wrong line.
    ("I 1 0 5\nx", 1), ("x\nR 2 0 5", 0),
)

# Texts whose equations at rest have no solution, and such as have more than one.
NO_SOLUTION = (
    "V 1 0 3\nV 1 0 4", "I 1 0 5", "V 1 0 3\nL 1 0 1", "V 1 0 5\nR 1 0 1\nI 0 2 5\nC 2 0 1",
    "V 1 2 1\nV 2 3 1\nV 3 1 1\nR 1 0 1", "I 0 1 1\nI 1 0 2", "V 1 0 1\nE 1 0 0 0 5",
    "I 0 1 1\nG 0 1 1 0 1\nR 1 0 1", "V 0 0 5",
)
MORE_THAN_ONE = (
    "V 1 0 3\nV 1 0 3", "I 1 0 0", "C 1 0 5", "L 1 0 1\nL 1 0 2", "V 1 0 0\nL 1 0 1", "E 1 0 1 0 1", "G 1 0 1 0 0",
    "R 1 2 5", "V 1 2 5", "R 1 0 1\nC 1 2 1", "R 1 0 1\nC 1 2 1\nC 2 0 1", "V 1 2 1\nV 2 3 1\nV 3 1 -2\nR 1 0 1",
    "I 0 1 1\nI 1 0 1", "G 0 1 1 0 1\nR 1 0 1", "R 2 0 1", "R 1 1 1", "R 1 0 1\nG 1 0 2 0 1", "V 0 0 0", "L 0 0 5",
)


class Alike:
    """Taken in ahead of unittest.TestCase; `kept` are texts of any sort for the call."""

    kept = ("", GOOD, "R 2 0 1\n", "\nx\n", "R 0 0 5\n" * 17, "* remark\n V 1  0 -2/6  \n\nL 1 2 1/2\nC 2 0 3\nR 2 0 7",
            "*\n" * 40000)

    def ask(self, text):
        raise NotImplementedError

    def test_wrong_texts(self):
        for text, line in WRONG:
            self.assertEqual(self.ask(list(as_bytes(text))), [-100 - line], text[:100])

    def test_too_long_a_text(self):
        for sign in " *\nR":
            self.assertEqual(self.ask(list(as_bytes(sign * (MOST_BYTES + 1)))), [-2])
        self.assertEqual(self.ask(list(as_bytes("x\n" + "\n" * MOST_BYTES))), [-2])

    def test_longest_text(self):
        answer = self.ask(list(as_bytes(GOOD)))
        self.assertEqual(self.ask(list(as_bytes(GOOD + "*" * (MOST_BYTES - len(GOOD))))), answer)
        self.assertEqual(self.ask(list(as_bytes(GOOD.rjust(MOST_BYTES)))), answer)
        self.assertEqual(self.ask(list(as_bytes(GOOD.rjust(MOST_BYTES, "\n")))), answer)

    def test_lines_that_say_nothing_and_blanks_change_nothing(self):
        answer = self.ask(list(as_bytes(GOOD)))
        for text in ("\n* R 8 0 1\n" + GOOD + "\n \n*", GOOD.rstrip("\n"), GOOD.replace(" ", "   "),
                     GOOD.replace("\n", "  \n   ")):
            self.assertEqual(self.ask(list(as_bytes(text))), answer, text)

    def test_text_is_as_it_was(self):
        for text in self.kept:
            handed = list(as_bytes(text))
            answer = self.ask(handed)
            self.assertEqual(handed, list(as_bytes(text)))
            self.assertEqual(self.ask(Unchanged(as_bytes(text))), answer)

    def test_second_call_answers_as_the_first(self):
        for text in self.kept:
            handed = list(as_bytes(text))
            first = self.ask(handed)
            kept = list(first)
            first.append(99)
            self.assertEqual(self.ask(handed), kept)

    def test_no_call_bears_on_another(self):
        alone = [self.ask(list(as_bytes(text))) for text in self.kept]
        for before in self.kept:
            for text, answer in zip(self.kept, alone):
                self.ask(list(as_bytes(before)))
                self.assertEqual(self.ask(list(as_bytes(text))), answer)

    def test_answer_is_a_list_of_plain_whole_numbers(self):
        for text in self.kept + (" " * (MOST_BYTES + 1),):
            answer = self.ask(list(as_bytes(text)))
            self.assertIs(type(answer), list)
            self.assertEqual([type(number) for number in answer], [int] * len(answer))
