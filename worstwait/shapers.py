"""Shapers: letters are held back until what goes out keeps a promise."""

from worstwait.closures import closure
from worstwait.curves import need_curve
from worstwait.foldings import folding
from worstwait.measures import measured
from worstwait.traffics import curve_of
from worstwait.ways import longest_across, most_above


def shaped(traffic, promise):
    """The endless traffic that goes out of a shaper."""
    need_curve(promise)
    endless = curve_of(traffic)
    return folding(endless, closure(promise))


def heap_in(traffic, promise):
    """The most letters that lie in a shaper; None without end."""
    need_curve(promise)
    most = measured(traffic)
    return most_above(most, closure(promise))[0]


def wait_in(traffic, promise):
    """The longest wait of a letter in a shaper; None without end."""
    need_curve(promise)
    most = measured(traffic)
    return longest_across(most, closure(promise))[0]
