"""Plays of parcels: letters that stay together, flow by flow by rank."""

from worstwait.errors import BadParcels, BadStation, TooMany
from worstwait.kinds import is_from, is_list
from worstwait.plays import MOST_BEATS
from worstwait.stations import is_speeds

MOST_PARCELS = 200


def is_parcel(thing):
    """Whether it is a pair of a beat and a size."""
    if not isinstance(thing, tuple) or len(thing) != 2:
        return False
    return is_from(thing[0], 0, 59) and is_from(thing[1], 1, 60)


def is_parcels(thing):
    """Whether it is a list of 1 to 4 lists of parcels, their beats never falling."""
    if not is_list(thing) or not 1 <= len(thing) <= 4:
        return False
    if not all([is_list(flow) for flow in thing]):
        return False
    if sum([len(flow) for flow in thing]) > MOST_PARCELS:
        return False
    for flow in thing:
        if not all([is_parcel(parcel) for parcel in flow]):
            return False
        if any([one[0] > two[0] for one, two in zip(flow, flow[1:])]):
            return False
    return True


def played_parcels(speeds, flows):
    """For each flow the beats in which the last letters of its parcels leave."""
    if not is_speeds(speeds):
        raise BadStation("speeds")
    if not is_parcels(flows):
        raise BadParcels("a list of 1 to 4 lists of pairs of beat and size is wanted")
    ends = [[] for _ in flows]
    begun = None
    to_go = 0
    beat = 0
    while any([len(end) < len(flow) for end, flow in zip(ends, flows)]):
        if beat == MOST_BEATS:
            raise TooMany(MOST_BEATS)
        for _ in range(speeds[beat % len(speeds)]):
            if begun is None:
                begun = next_flow(flows, ends, beat)
                if begun is None:
                    break
                to_go = flows[begun][len(ends[begun])][1]
            to_go -= 1
            if to_go == 0:
                ends[begun].append(beat)
                begun = None
        beat += 1
    return tuple([tuple(end) for end in ends])


def next_flow(flows, ends, beat):
    """The least flow that has a parcel which has come and not left; None without one."""
    for place, flow in enumerate(flows):
        gone = len(ends[place])
        if gone < len(flow) and flow[gone][0] <= beat:
            return place
    return None
