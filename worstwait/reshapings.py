"""Shaping again: what a shaper ahead of a server costs."""

from worstwait.closures import closure
from worstwait.curves import need_curve
from worstwait.foldings import folding
from worstwait.ways import longest_across, most_above


def wait_and_heap(closed, server):
    """How long letters wait and how many lie there at most; None for without end."""
    return longest_across(closed, server)[0], most_above(closed, server)[0]


def shaping_cost(promise, shaper, server):
    """The pairs of wait and heap at a server alone, and with a shaper ahead of it."""
    need_curve(promise)
    need_curve(shaper)
    need_curve(server)
    closed = closure(promise)
    alone = wait_and_heap(closed, server)
    return alone, wait_and_heap(closed, folding(closure(shaper), server))
