"""Loops of servers as one server: how much of what came has not come through at most."""

from worstwait.closures import closure
from worstwait.curves import MOST, need_curve
from worstwait.gaps import greatest_gap
from worstwait.joined import first_above, raised
from worstwait.kinds import need_number
from worstwait.systems import need_system
from worstwait.throughs import need_joint, through


def need_loop(promise, system, to, joint):
    """Raise the errors of what is no promise, no system, or no joint of it."""
    need_curve(promise)
    need_system(system)
    need_joint(system, to, "to")
    need_joint(system, joint, "joint")


def loop_gap(promise, system, to, joint):
    """The most of what came at a joint that did not come through; None without end."""
    need_loop(promise, system, to, joint)
    return greatest_gap(closure(promise), through(system, to, joint))[0]


def loop_above(promise, system, to, joint, number):
    """The least beat at which more than a number did not come through; None if it never is so."""
    need_loop(promise, system, to, joint)
    need_number(number, 0, MOST, "number")
    return first_above(closure(promise), raised(through(system, to, joint), number))
