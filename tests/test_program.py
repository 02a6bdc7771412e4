"""The whole program: its interface, and that calls in any order answer as each does by itself."""

import contextlib
import inspect
import io
import random
import subprocess
import sys
import unittest
from pathlib import Path

import second
from alike import GOOD
from circuitsdesk import nodes
from second import MOST_BYTES, Unchanged, as_bytes

TOP = Path(__file__).resolve().parent.parent
ARGUMENTS = {
    "el_check": ["text"],
    "el_volts": ["most", "text"],
    "el_power": ["element", "most", "text"],
    "el_signal": ["source", "a", "b", "most", "text"],
    "el_settles": ["text"],
}
SECOND = {"el_check": second.check, "el_volts": second.volts, "el_power": second.power, "el_signal": second.signal,
          "el_settles": second.settles}
TEXTS = ("", GOOD, "V 1 0 10\nR 1 2 1/2\nC 2 0 3\n", "I 0 1 1\nL 1 0 2\nC 1 0 3\nR 1 0 5", "C 1 0 1\nI 0 1 2",
         "C 1 0 1\nG 1 0 1 0 -1\nV 2 0 3", "R 2 0 1", "R 1 0 1\nx\n", "V 1 0 1\nV 1 0 1\n")
NUMBERS = {"element": (0, 1, 2, 9), "source": (0, 1, 2, 9), "a": (0, 1, 2), "b": (0, 1), "most": (MOST_BYTES, 4, 0)}


def all_calls():
    """Each call with each text and some numbers: its name and what is handed in, the text as a str."""
    calls = []
    for name, arguments in ARGUMENTS.items():
        handed = [()]
        for argument in arguments:
            handed = [one + (value,) for one in handed for value in NUMBERS.get(argument, TEXTS)]
        calls += [(name, one) for one in handed]
    return calls


def called(name, handed, kind=list):
    return getattr(nodes, name)(*handed[:-1], kind(as_bytes(handed[-1])))


class Interface(unittest.TestCase):
    def test_names_and_arguments(self):
        for name, arguments in ARGUMENTS.items():
            self.assertEqual(list(inspect.signature(getattr(nodes, name)).parameters), arguments)

    def test_arguments_by_name(self):
        text = list(as_bytes(GOOD))
        self.assertEqual(nodes.el_check(text=text), [0, 2, 3, 0])
        self.assertEqual(nodes.el_volts(most=8, text=text), [8] + list(b"1 6\n2 2\n"))
        self.assertEqual(nodes.el_power(element=2, most=8, text=text), [1] + list(b"4"))
        self.assertEqual(nodes.el_signal(source=0, a=2, b=0, most=8, text=text), [5] + list(b"1 / 3"))
        self.assertEqual(nodes.el_settles(text=text), [1])

    def test_prints_nothing(self):
        out, err = io.StringIO(), io.StringIO()
        with contextlib.redirect_stdout(out), contextlib.redirect_stderr(err):
            for name, handed in all_calls()[::7]:
                called(name, handed)
        self.assertEqual(out.getvalue() + err.getvalue(), "")

    def test_imports_nothing_but_its_own(self):
        script = ("import sys; before = set(sys.modules); import circuitsdesk.nodes; "
                  "print(*sorted(name for name in set(sys.modules) - before if name.split('.')[0] != 'circuitsdesk'))")
        run = subprocess.run([sys.executable, "-c", script], cwd=TOP, capture_output=True, text=True, check=True)
        self.assertEqual(run.stdout.strip() + run.stderr, "")


class EachCallByItself(unittest.TestCase):
    def test_any_order(self):
        calls = all_calls()
        alone = {call: called(*call) for call in calls}
        chance = random.Random(14)
        for turn in range(3):
            chance.shuffle(calls)
            for call in calls:
                self.assertEqual(called(*call), alone[call], call)

    def test_answers_are_as_the_second_way_tells(self):
        for name, handed in all_calls():
            self.assertEqual(called(name, handed), second.answer(SECOND[name], *handed), (name, handed))

    def test_one_text_for_all_calls(self):
        for text in TEXTS:
            handed = Unchanged(as_bytes(text))
            for name, arguments in ARGUMENTS.items():
                numbers = [NUMBERS[argument][0] for argument in arguments[:-1]]
                self.assertEqual(getattr(nodes, name)(*numbers, handed), called(name, (*numbers, text)))
            self.assertEqual(handed, list(as_bytes(text)))

    def test_answers_are_lists_of_plain_whole_numbers(self):
        for name, handed in all_calls():
            answer = called(name, handed)
            self.assertIs(type(answer), list)
            self.assertEqual({type(number) for number in answer}, {int})


class Told(unittest.TestCase):
    def test_most_at_each_length(self):
        """Point 6 over all three calls that tell bytes: up to most they are told, beyond it they are not."""
        for name, handed in all_calls():
            if "most" not in ARGUMENTS[name] or handed[-2] != MOST_BYTES:
                continue
            answer = called(name, handed)
            if answer[0] < 0:
                self.assertEqual(called(name, (*handed[:-2], 0, handed[-1])), answer)
                continue
            self.assertEqual(answer[0], len(answer) - 1)
            self.assertEqual(called(name, (*handed[:-2], answer[0], handed[-1])), answer)
            for most in range(answer[0]):
                self.assertEqual(called(name, (*handed[:-2], most, handed[-1])), [-1])
            self.assertEqual(called(name, (*handed[:-2], -1, handed[-1])), [-2])

    def test_longest_texts_are_gone_through_by_loops(self):
        limit = sys.getrecursionlimit()
        sys.setrecursionlimit(len(inspect.stack(0)) + 60)
        try:
            for text in (" " * MOST_BYTES, "\n" * MOST_BYTES, "x " * (MOST_BYTES // 2), "1" * MOST_BYTES,
                         GOOD.rjust(MOST_BYTES), GOOD.rjust(MOST_BYTES, "\n")):
                for name, arguments in ARGUMENTS.items():
                    called(name, (*[NUMBERS[argument][0] for argument in arguments[:-1]], text))
        finally:
            sys.setrecursionlimit(limit)


if __name__ == "__main__":
    unittest.main()
