"""Systems: joints whose curves are told by one another, and their greatest and least solutions."""

from worstwait.closures import closure
from worstwait.curves import Curve, at, flat
from worstwait.errors import BadSystem
from worstwait.foldings import folding, unit
from worstwait.joined import least_of
from worstwait.kinds import is_from, is_list

MOST_JOINTS = 6


class System:
    """A system: bases, and arcs (to, from, curve) ascending, both tuples."""

    def __init__(self, bases, arcs):
        if not is_bases(bases):
            raise BadSystem("bases")
        if not is_arcs(arcs, len(bases)):
            raise BadSystem("arcs")
        self.bases = tuple(bases)
        self.arcs = tuple(sorted(arcs, key=lambda arc: (arc[0], arc[1])))

    def __eq__(self, other):
        if not isinstance(other, System):
            return False
        return self.bases == other.bases and self.arcs == other.arcs


def is_bases(thing):
    """Whether it is a list of 1 to 6 curves."""
    return is_list(thing) and 1 <= len(thing) <= MOST_JOINTS and are_curves(thing)


def are_curves(things):
    """Whether each of them is a curve."""
    return all([isinstance(thing, Curve) for thing in things])


def is_arc(thing, joints):
    """Whether it is a triple of two joints and a curve."""
    if not isinstance(thing, tuple) or len(thing) != 3:
        return False
    to, source, curve = thing
    return is_from(to, 0, joints - 1) and is_from(source, 0, joints - 1) and isinstance(curve, Curve)


def is_arcs(thing, joints):
    """Whether it is a list of arcs, no two of the same to and from."""
    if not is_list(thing) or not all([is_arc(arc, joints) for arc in thing]):
        return False
    return len({arc[:2] for arc in thing}) == len(thing)


def need_system(thing):
    """Raise the error of what is no system unless it is one."""
    if not isinstance(thing, System):
        raise BadSystem(None)


def told_by_rule(system, row):
    """The row of curves that the rule tells of a row of curves."""
    told = list(system.bases)
    for to, source, curve in system.arcs:
        told[to] = least_of(told[to], folding(curve, row[source]))
    return told


def is_solution(system, thing):
    """Whether it is a row of curves of which the rule tells this row."""
    need_system(system)
    if not is_list(thing) or len(thing) != len(system.bases) or not are_curves(thing):
        return False
    return told_by_rule(system, thing) == list(thing)


def solved(system):
    """The list of the greatest solution."""
    need_system(system)
    return greatest_row(system.bases, system.arcs)


def greatest_row(bases, arcs):
    """The greatest solution: joint by joint passed over, and told again from those left.

    bases has a curve for each joint.
    """
    left = {joint: base for joint, base in enumerate(bases)}
    ways = ways_of(arcs)
    passed_joints = []
    for joint in range(len(bases) - 1, 0, -1):
        sources = [source for source in range(joint) if (joint, source) in ways]
        told = [(source, ways[joint, source]) for source in sources]
        loop = loop_of(ways, joint)
        passed_joints.append((left[joint], told, loop))
        left, ways = passed_over(left, ways, joint, loop)
    row = [folding(loop_of(ways, 0), left[0])]
    for base, told, loop in passed_joints[::-1]:
        for source, curve in told:
            base = least_of(base, folding(curve, row[source]))
        row.append(folding(loop, base))
    return row


def ways_of(arcs):
    """The dict from pairs of joints, to and from, to the curves of the arcs."""
    return {(to, source): curve for to, source, curve in arcs}


def loop_of(ways, joint):
    """The closure of the curve of the arc from a joint to itself, unit() without one."""
    if (joint, joint) in ways:
        return closure(ways[joint, joint])
    return unit()


def passed_over(left, ways, joint, loop):
    """The bases and the ways of all joints but one, what goes through that one put in.

    loop is the closure of the curve of its arc to itself.
    """
    others = [place for place in left if place != joint]
    bases = {to: left[to] for to in others}
    told = {(to, source): ways[to, source] for to, source in ways if joint not in (to, source)}
    for to in [place for place in others if (place, joint) in ways]:
        ahead = folding(ways[to, joint], loop)
        bases[to] = least_of(left[to], folding(ahead, left[joint]))
        for source in [place for place in others if (joint, place) in ways]:
            curve = folding(ahead, ways[joint, source])
            if (to, source) in told:
                curve = least_of(told[to, source], curve)
            told[to, source] = curve
    return bases, told


def still_joints(system):
    """The joints on a ring that takes no beat and adds nothing, ascending."""
    need_system(system)
    joints = list(range(len(system.bases)))
    near = {(to, source): True for to, source, curve in system.arcs if at(curve, 0) == 0}
    for middle in joints:
        for to in joints:
            for source in joints:
                if (to, middle) in near and (middle, source) in near:
                    near[to, source] = True
    return tuple([joint for joint in joints if (joint, joint) in near])


def least_solved(system):
    """The list of the least solution."""
    still = still_joints(system)
    bases = [flat(0) if joint in still else base for joint, base in enumerate(system.bases)]
    return greatest_row(bases, system.arcs)


def is_one(system):
    """Whether there is just one solution."""
    still = still_joints(system)
    if not still:
        return True
    row = solved(system)
    return all([row[joint] == flat(0) for joint in still])
