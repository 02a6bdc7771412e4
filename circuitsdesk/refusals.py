"""The refusals: each is raised where it is found, and knows the number that the call then answers."""


class BadCall(Exception):
    """What is asked for can't be: a text too long, a number that fits nothing."""

    def __init__(self):
        self.answer = -2


class WrongLine(Exception):
    """The line of this number, from 0 on, is the first wrong one."""

    def __init__(self, line):
        self.answer = -100 - line


class NotOneSolution(Exception):
    """The equations have no solution, or more than one."""

    def __init__(self):
        self.answer = -5


class TooManyBytes(Exception):
    """What is to be told has more bytes than it may have."""

    def __init__(self):
        self.answer = -1
