"""Expressions of curves, worked out token by token."""

from worstwait.closures import closure
from worstwait.curves import Curve, flat, late, line
from worstwait.foldings import folding
from worstwait.joined import later, least_of, most_of, raised, sooner, sum_of, times
from worstwait.tokens import is_digit
from worstwait.unfoldings import unfolding


class Expressions:
    """Reads tokens of a text that is known to be one, from a place on."""

    def __init__(self, tokens):
        self.tokens = tokens
        self.place = 0

    def pull(self):
        """The next token, which then is behind."""
        self.place += 1
        return self.tokens[self.place - 1]

    def next_is(self, token):
        """Whether the next token is this one."""
        return self.place < len(self.tokens) and self.tokens[self.place] == token

    def read_number(self):
        """The next number, or None for none."""
        token = self.pull()
        return None if token == "none" else int(token)

    def read_curve(self):
        """The curve of the expression that comes next."""
        told = self.read_term()
        while self.next_is("+"):
            self.pull()
            told = sum_of(told, self.read_term())
        return told

    def read_term(self):
        """The curve of the expression without a sum that comes next."""
        word = self.pull()
        if word == "[":
            return self.row_curve()
        if word == "flat":
            return flat(self.read_number())
        if word in ("line", "late"):
            return self.line_curve(word)
        if word != "(":
            self.pull()
        told = self.read_curve()
        if word == "close":
            told = closure(told)
        if self.pull() == ",":
            told = self.joined(word, told)
            self.pull()
        return told

    def joined(self, word, curve):
        """The curve that a word makes of a curve and of what comes next."""
        if word == "least":
            return least_of(curve, self.read_curve())
        if word == "most":
            return most_of(curve, self.read_curve())
        if word == "fold":
            return folding(curve, self.read_curve())
        if word == "unfold":
            return unfolding(curve, self.read_curve())
        if word == "later":
            return later(curve, self.read_number())
        if word == "sooner":
            return sooner(curve, self.read_number())
        if word == "raised":
            return raised(curve, self.read_number())
        return times(curve, self.read_number())

    def line_curve(self, word):
        """The curve of a line, or of a late one."""
        first = self.read_number()
        steps = self.read_number()
        self.pull()
        beats = self.read_number()
        return line(first, steps, beats) if word == "line" else late(first, steps, beats)

    def row_curve(self):
        """The curve of a row."""
        row = [self.read_number()]
        while self.next_is("none") or is_digit(self.tokens[self.place][0]):
            row.append(self.read_number())
        if self.pull() == "]":
            return Curve(row, 1, 0)
        period = self.read_number()
        self.pull()
        growth = self.read_number()
        self.pull()
        return Curve(row, period, growth)
