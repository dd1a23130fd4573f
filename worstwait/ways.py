"""Ways from curve to curve: how far one is above another one, and behind how many beats that one comes to it."""

from worstwait.curves import has_none
from worstwait.gaps import greatest_gap, longest_lag
from worstwait.joined import common_period, need_two


def need_like_enough(curve, other):
    """Raise the error of curves that are too unlike if they are."""
    if not has_none(curve) and not has_none(other):
        common_period(curve, other)


def most_above(curve, other):
    """How much the curve is above the other one at most, and the first such beat."""
    need_two(curve, other)
    need_like_enough(curve, other)
    return greatest_gap(curve, other)


def longest_across(curve, other):
    """Behind how many beats at most the other one comes to what the curve has, and the first such beat."""
    need_two(curve, other)
    need_like_enough(curve, other)
    return longest_lag(curve, other)
