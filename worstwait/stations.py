"""Stations: speeds that go round, and a rule that tells whose letter leaves next."""

from worstwait.errors import BadStation
from worstwait.kinds import is_from, is_list, is_number, need_number

MOST_LETTERS = 12000


class Station:
    """A station: speeds and rule as handed in, flows how many flows it has."""

    def __init__(self, speeds, rule):
        if not is_speeds(speeds):
            raise BadStation("speeds")
        if not is_rule(rule):
            raise BadStation("rule")
        self.speeds = tuple(speeds)
        self.rule = rule
        self.flows = len(rule[1]) if isinstance(rule[1], tuple) else rule[1]

    def __eq__(self, other):
        if not isinstance(other, Station):
            return False
        return self.speeds == other.speeds and self.rule == other.rule


def is_speeds(thing):
    """Whether it is a list of 1 to 60 numbers from 0 to 1000, not all 0."""
    if not is_list(thing) or not 1 <= len(thing) <= 60:
        return False
    return all([is_from(one, 0, 1000) for one in thing]) and max(thing) > 0


def is_rule(thing):
    """Whether it is a pair that tells a rule."""
    if not isinstance(thing, tuple) or len(thing) != 2 or not isinstance(thing[0], str):
        return False
    word, told = thing
    if word in ("ranks", "come"):
        return is_from(told, 1, 4)
    if word not in ("turns", "shares") or not isinstance(told, tuple):
        return False
    return 1 <= len(told) <= 4 and all([is_from(one, 1, 60) for one in told])


def need_station(thing):
    """Raise the error of what is no station unless it is one."""
    if not isinstance(thing, Station):
        raise BadStation(None)


def is_rows(station, thing):
    """Whether it tells how many letters of each flow come at each beat."""
    need_station(station)
    if not is_list(thing) or len(thing) != station.flows:
        return False
    if not all([is_list(row) for row in thing]) or not 1 <= len(thing[0]) <= 60:
        return False
    letters = 0
    for row in thing:
        if len(row) != len(thing[0]) or not all([is_number(one) and one >= 0 for one in row]):
            return False
        letters += sum(row)
    return letters <= MOST_LETTERS


def rotated(station, phase):
    """The station of the same rule whose speeds begin at this beat."""
    need_station(station)
    need_number(phase, 0, 59, "phase")
    begin = phase % len(station.speeds)
    return Station(station.speeds[begin:] + station.speeds[:begin], station.rule)
