"""Promises within one another, and traffics that tell them apart."""

from worstwait.closures import closure
from worstwait.curves import at, first_values
from worstwait.errors import TooMany
from worstwait.joined import first_above, need_two
from worstwait.traffics import MOST_BEATS, steps_of


def is_within(promise, other):
    """Whether every traffic that keeps the promise keeps the other one, too."""
    need_two(promise, other)
    return first_above(closure(promise), other) is None


def are_alike(promise, other):
    """Whether just the same traffics keep both promises."""
    need_two(promise, other)
    return closure(promise) == closure(other)


def traffic_between(promise, other):
    """A shortest traffic that keeps the promise and not the other one; None if there is none."""
    need_two(promise, other)
    closed = closure(promise)
    beats = first_above(closed, other)
    if beats is None:
        return None
    if beats > MOST_BEATS:
        raise TooMany(MOST_BEATS)
    most = at(other, beats) + 1
    # Only all beats together can break the other promise, so that just one letter more is enough.
    return steps_of([most if one is None else min(one, most) for one in first_values(closed, beats + 1)])
