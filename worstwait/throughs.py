"""What goes through systems: from joint to joint, and without a joint."""

from worstwait.curves import MOST, flat, made
from worstwait.errors import BadSystem
from worstwait.foldings import unit
from worstwait.kinds import need_number
from worstwait.systems import System, greatest_row, loop_of, need_system, passed_over, ways_of


def need_joint(system, thing, part):
    """Raise the error that names this part unless it is a joint of the system."""
    need_number(thing, 0, len(system.bases) - 1, part)


def shift(number, beats):
    """The curve through which all comes so many beats later, and so much more."""
    need_number(number, 0, MOST, "number")
    need_number(beats, 0, 300, "beats")
    return made([number] * (beats + 1) + [None], 1, 0)


def through(system, to, joint):
    """What comes to one joint of what the base of another one tells."""
    need_system(system)
    need_joint(system, to, "to")
    need_joint(system, joint, "joint")
    bases = [unit() if place == joint else flat(None) for place in range(len(system.bases))]
    return greatest_row(bases, system.arcs)[to]


def without(system, joint):
    """The system of the other joints, in which what went through this one goes straight."""
    need_system(system)
    need_joint(system, joint, "joint")
    if len(system.bases) == 1:
        raise BadSystem("bases")
    left = {place: base for place, base in enumerate(system.bases)}
    ways = ways_of(system.arcs)
    bases, ways = passed_over(left, ways, joint, loop_of(ways, joint))
    others = list(bases)
    arcs = [(others.index(to), others.index(source), ways[to, source]) for to, source in ways]
    return System([bases[place] for place in others], arcs)
