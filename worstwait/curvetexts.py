"""Texts of curves."""

from worstwait.bookings import is_given
from worstwait.curves import MOST, MOST_GIVEN, at, late, line, need_curve, rate
from worstwait.errors import TooMany
from worstwait.expressions import Expressions
from worstwait.syntax import TERM, Syntax
from worstwait.tokens import need_text, tail_of


def curve_text(curve):
    """The shortest text of a curve that is a row, a line or a late one, of several the least one."""
    need_curve(curve)
    if not is_given(curve):
        raise TooMany(MOST_GIVEN)
    texts = [row_text(curve)] + line_texts(curve) + late_texts(curve)
    return min(texts, key=lambda text: (len(text), text))


def row_text(curve):
    """The text of the row of a curve's least form, in which nothing can be left out."""
    row = list(curve.start)
    if row[-1] is None:
        row.pop()
        return "[" + " ".join([str(one) for one in row]) + "none]"
    told = "[" + " ".join([str(one) for one in row])
    if (curve.period, curve.growth) == (1, 0):
        return told + "]"
    return told + ";" + str(curve.period) + "by" + str(curve.growth) + "]"


def line_texts(curve):
    """The shortest text of a line that is this curve, in a list; [] without one."""
    if rate(curve) is None:
        return []
    steps, beats = rate(curve)
    burst = at(curve, 1) - steps // beats
    if not 0 <= burst <= MOST or line(burst, steps, beats) != curve:
        return []
    return ["line" + str(burst) + " " + str(steps) + "/" + str(beats)]


def late_texts(curve):
    """The shortest text of a late line that is this curve, in a list; [] without one or of zeros."""
    if rate(curve) is None or curve.growth == 0:
        return []
    steps, beats = rate(curve)
    first = 0
    while at(curve, first) == 0:
        first += 1
    wait = first - -(-beats // steps)
    if not 0 <= wait <= 300 or late(wait, steps, beats) != curve:
        return []
    return ["late" + str(wait) + " " + str(steps) + "/" + str(beats)]


def tail_of_curve_text(text):
    """The shortest string that makes it a text of a curve; None if none does."""
    return tail_of(Syntax(TERM), text)


def curve_of_text(text):
    """The curve that a text tells."""
    return Expressions(need_text(Syntax(TERM), text)).read_curve()
