"""Floors of systems, below which no solution falls, and what is slower than a rate."""

from itertools import permutations

from worstwait.curves import MOST, at, has_none
from worstwait.kinds import is_from, is_number, need_number
from worstwait.systems import need_system, ways_of


def need_rate(system, steps, beats):
    """Raise the errors of what is no system, and of numbers that are no rate."""
    need_system(system)
    need_number(steps, 0, MOST, "steps")
    need_number(beats, 1, 60, "beats")


def falls_back(curve, steps, beats):
    """Whether the curve has no None and a rate below steps / beats."""
    return not has_none(curve) and curve.growth * beats < steps * curve.period


def lack_at(curve, steps, beats, beat):
    """By how much a curve is behind the rate, times beats, at a beat at which it has a number."""
    return steps * beat - beats * at(curve, beat)


def worst_beat(curve, steps, beats):
    """The beat at which a curve that does not fall back is most behind the rate; None if it has no number."""
    numbers = [one for one in curve.start if one is not None]
    lacks = [steps * beat - beats * one for beat, one in enumerate(numbers)]
    return lacks.index(max(lacks)) if lacks else None


def greatest_lack(curve, steps, beats):
    """By how much a curve that does not fall back is behind the rate at most, times beats; None without numbers."""
    beat = worst_beat(curve, steps, beats)
    return None if beat is None else lack_at(curve, steps, beats, beat)


def slower_curve(system, steps, beats):
    """A base or an arc that falls back; None if there is none."""
    for joint, base in enumerate(system.bases):
        if falls_back(base, steps, beats):
            return "base", joint
    for to, source, curve in system.arcs:
        if falls_back(curve, steps, beats):
            return "arc", to, source
    return None


def base_lacks(system, steps, beats):
    """Pairs of a joint and how far its base is behind the rate at most."""
    told = [(joint, greatest_lack(base, steps, beats)) for joint, base in enumerate(system.bases)]
    return [(joint, lack) for joint, lack in told if lack is not None]


def arc_lacks(system, steps, beats):
    """Triples of the joints of an arc and how far it is behind the rate at most."""
    told = [(to, source, greatest_lack(curve, steps, beats)) for to, source, curve in system.arcs]
    return [(to, source, lack) for to, source, lack in told if lack is not None]


def is_floor(system, steps, beats, thing):
    """Whether it is a floor."""
    need_rate(system, steps, beats)
    if not isinstance(thing, tuple) or len(thing) != len(system.bases):
        return False
    if not all([is_number(one) and one >= 0 for one in thing]) or slower_curve(system, steps, beats) is not None:
        return False
    if any([thing[joint] < lack for joint, lack in base_lacks(system, steps, beats)]):
        return False
    return all([thing[to] >= thing[source] + lack for to, source, lack in arc_lacks(system, steps, beats)])


def floor_of(system, steps, beats):
    """A floor, the least one; None if there is none."""
    need_rate(system, steps, beats)
    if slower_curve(system, steps, beats) is not None:
        return None
    floor = [0] * len(system.bases)
    for joint, lack in base_lacks(system, steps, beats):
        floor[joint] = max(0, lack)
    arcs = arc_lacks(system, steps, beats)
    # Behind as many rounds as there are joints only a ring still lifts anything.
    for _ in range(len(floor)):
        before = list(floor)
        for to, source, lack in arcs:
            floor[to] = max(floor[to], floor[source] + lack)
        if floor == before:
            return tuple(floor)
    return None


def slower(system, steps, beats):
    """Something slower than steps / beats; None if there is nothing."""
    need_rate(system, steps, beats)
    found = slower_curve(system, steps, beats)
    if found is not None:
        return found
    lacks = {(to, source): lack for to, source, lack in arc_lacks(system, steps, beats)}
    for many in range(1, len(system.bases) + 1):
        for ring in permutations(range(len(system.bases)), many):
            links = [(to, ring[(place + 1) % many]) for place, to in enumerate(ring)]
            if all([link in lacks for link in links]) and sum([lacks[link] for link in links]) > 0:
                curves = ways_of(system.arcs)
                return "ring", tuple([link + (worst_beat(curves[link], steps, beats),) for link in links])
    return None


def is_slower(system, steps, beats, thing):
    """Whether it is something slower than steps / beats."""
    need_rate(system, steps, beats)
    if not isinstance(thing, tuple) or len(thing) < 2 or not isinstance(thing[0], str):
        return False
    curves = ways_of(system.arcs)
    if thing[0] == "base":
        return is_joints(system, thing[1:], 1) and falls_back(system.bases[thing[1]], steps, beats)
    if thing[0] == "arc":
        if not is_joints(system, thing[1:], 2) or thing[1:] not in curves:
            return False
        return falls_back(curves[thing[1:]], steps, beats)
    if thing[0] != "ring" or len(thing) != 2 or not is_ring(system, thing[1]):
        return False
    return sum([lack_at(curves[to, source], steps, beats, beat) for to, source, beat in thing[1]]) > 0


def is_joints(system, thing, many):
    """Whether it is a tuple of so many joints."""
    return len(thing) == many and all([is_from(one, 0, len(system.bases) - 1) for one in thing])


def is_ring(system, thing):
    """Whether it is a tuple of arcs and beats with numbers that go round, no two to the same joint."""
    if not isinstance(thing, tuple) or not thing:
        return False
    curves = ways_of(system.arcs)
    for one in thing:
        if not isinstance(one, tuple) or len(one) != 3 or not is_joints(system, one[:2], 2):
            return False
        if one[:2] not in curves or not is_number(one[2]) or one[2] < 0 or at(curves[one[:2]], one[2]) is None:
            return False
    if len({one[0] for one in thing}) < len(thing):
        return False
    return all([one[1] == two[0] for one, two in zip(thing, thing[1:] + thing[:1])])
