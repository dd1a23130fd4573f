"""All traffics of a promise: its rests, how one goes over into another one, and how many there are."""

from worstwait.closures import closure
from worstwait.curves import at, made, need_curve
from worstwait.errors import BadNumber, BadTraffic, TooMany
from worstwait.kinds import is_number, need_number
from worstwait.rests import need_kept, row_behind
from worstwait.traffics import is_traffic

MOST_LETTERS = 60
MOST_RESTS = 400
MOST_BEATS = 300


class Rests:
    """All rests of a promise, as rows of the start of its closure, and the moves between them."""

    def __init__(self, promise):
        first = at(promise, 1)
        if first is None or first > MOST_LETTERS:
            raise TooMany(MOST_LETTERS)
        self.closed = closure(promise)
        self.rows = [self.closed.start]
        self.places = {self.closed.start: 0}
        self.moves = []
        while len(self.moves) < len(self.rows):
            self.moves.append(self.places_behind(list(self.rows[len(self.moves)])))

    def places_behind(self, row):
        """The places of the rests behind 0, 1, 2 .. letters, those met first here noted."""
        told = [self.place_of(row_behind(self.closed, row, 0))]
        most = (row + [row[len(row) - self.closed.period] + self.closed.growth])[1]
        for letters in range(1, most + 1):
            told.append(self.place_of(row_behind(self.closed, row, letters)))
        return tuple(told)

    def place_of(self, row):
        """The place of a rest, a new one if it was not met yet."""
        key = tuple(row)
        if key not in self.places:
            if len(self.rows) == MOST_RESTS:
                raise TooMany(MOST_RESTS)
            self.places[key] = len(self.rows)
            self.rows.append(key)
        return self.places[key]


def all_rests(promise):
    """All rests of traffics that keep the promise, in the sequence in which they are met."""
    need_curve(promise)
    rests = Rests(promise)
    closed = rests.closed
    return tuple([made(list(row), closed.period, closed.growth) for row in rests.rows])


def all_moves(promise):
    """For each rest the places of the rests behind 0, 1, 2 .. letters more."""
    need_curve(promise)
    return tuple(Rests(promise).moves)


def counts_by_beats(moves, beats):
    """For 0, 1 .. beats: for each rest how many traffics of so many beats may come behind it."""
    told = [[1] * len(moves)]
    for _ in range(beats):
        last = told[-1]
        told.append([sum([last[to] for to in row]) for row in moves])
    return told


def count_kept(promise, beats):
    """How many traffics of just so many beats keep the promise."""
    need_curve(promise)
    need_number(beats, 0, MOST_BEATS, "beats")
    return counts_by_beats(all_moves(promise), beats)[beats][0]


def kept_at(promise, beats, place):
    """The traffic of so many beats at this place of all that keep the promise; None without one."""
    need_curve(promise)
    need_number(beats, 0, MOST_BEATS, "beats")
    if not is_number(place) or place < 0:
        raise BadNumber("place")
    moves = all_moves(promise)
    counts = counts_by_beats(moves, beats)
    if counts[beats][0] <= place:
        return None
    rest = 0
    traffic = []
    for left in range(beats - 1, -1, -1):
        letters = 0
        while counts[left][moves[rest][letters]] <= place:
            place -= counts[left][moves[rest][letters]]
            letters += 1
        traffic.append(letters)
        rest = moves[rest][letters]
    return tuple(traffic)


def kept_place(promise, traffic):
    """The place of a traffic among all of its number of beats that keep the promise."""
    need_curve(promise)
    if not is_traffic(traffic) or len(traffic) > MOST_BEATS:
        raise BadTraffic("traffic")
    need_kept(traffic, promise)
    moves = all_moves(promise)
    counts = counts_by_beats(moves, len(traffic))
    rest = 0
    place = 0
    for beat, letters in enumerate(traffic):
        left = counts[len(traffic) - beat - 1]
        place += sum([left[to] for to in moves[rest][:letters]])
        rest = moves[rest][letters]
    return place
