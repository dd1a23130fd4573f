"""Lines of stations of one flow: letters go from station to station."""

from worstwait.errors import BadStations, BadTraffic, TooMany
from worstwait.kinds import is_list
from worstwait.plays import MOST_BEATS
from worstwait.stations import MOST_LETTERS, is_speeds
from worstwait.traffics import is_traffic

MOST_STATIONS = 4
MOST_COMING = 60


def need_line(lines, traffic):
    """Raise the errors of what is no line of stations, and of what can't come to one."""
    if not is_list(lines) or not 1 <= len(lines) <= MOST_STATIONS:
        raise BadStations("a list of 1 to 4 lists of speeds is wanted")
    if not all([is_speeds(speeds) for speeds in lines]):
        raise BadStations("a list of 1 to 4 lists of speeds is wanted")
    if not is_traffic(traffic) or not 1 <= len(traffic) <= MOST_COMING or sum(traffic) > MOST_LETTERS:
        raise BadTraffic("traffic")


def played_line(lines, traffic):
    """For each station how many letters leave at each beat."""
    need_line(lines, traffic)
    told = [[] for _ in lines]
    heaps = [0] * len(lines)
    beat = 0
    while beat < len(traffic) or sum(heaps) > 0:
        if beat == MOST_BEATS:
            raise TooMany(MOST_BEATS)
        letters = traffic[beat] if beat < len(traffic) else 0
        for place, speeds in enumerate(lines):
            heap = heaps[place] + letters
            letters = min(heap, speeds[beat % len(speeds)])
            heaps[place] = heap - letters
            told[place].append(letters)
        beat += 1
    return tuple([tuple(row) for row in told])


def line_waits(lines, traffic):
    """The waits of the letters, from coming to the first station to leaving the last one."""
    last = played_line(lines, traffic)[-1]
    begins = [beat for beat, letters in enumerate(traffic) for _ in range(letters)]
    ends = [beat for beat, letters in enumerate(last) for _ in range(letters)]
    return tuple([end - begin for begin, end in zip(begins, ends)])
