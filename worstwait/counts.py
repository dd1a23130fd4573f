"""All traffics of a promise: its rests, how one goes over into another one, and how many there are."""

from worstwait.closures import closure
from worstwait.curves import at, made, need_curve
from worstwait.errors import BadNumber, BadTraffic, TooMany
from worstwait.kinds import is_number, need_number
from worstwait.rests import need_kept
from worstwait.traffics import is_traffic

MOST_LETTERS = 60
MOST_RESTS = 400
MOST_BEATS = 300


class Rests:
    """All rests of a promise, as rows of the start of its closure, and the moves between them.

    Rests that are alike but for how many letters are taken from them go over
    into the same ones behind as many letters in all. kinds has for each such
    kind of rests a list of the places behind 0, 1, 2 .. letters, None where
    none is known, and takes for each rest the place of its kind and how many
    letters are taken. numbers has the places of kinds by what a rest of them
    is one beat later, with no letters taken.
    """

    def __init__(self, promise):
        first = at(promise, 1)
        if first is None or first > MOST_LETTERS:
            raise TooMany(MOST_LETTERS)
        self.closed = closure(promise)
        self.rows = [self.closed.start]
        self.places = {self.closed.start: 0}
        self.kinds = []
        self.numbers = {}
        self.takes = []
        while len(self.takes) < len(self.rows):
            self.go_on(self.rows[len(self.takes)])

    def go_on(self, row):
        """Note all rests behind the next one, those met first as new ones."""
        taken = self.closed.start[-1] - row[-1]
        kind = [one + taken for one in row[1:]]
        kind.append(row[len(row) - self.closed.period] + self.closed.growth + taken)
        key = tuple(kind)
        if key not in self.numbers:
            self.numbers[key] = len(self.kinds)
            self.kinds.append([None] * (kind[0] + 1))
        number = self.numbers[key]
        places = self.kinds[number]
        for letters in range(taken, len(places)):
            if places[letters] is None:
                places[letters] = self.place_of(kind, letters)
        self.takes.append((number, taken))

    def place_of(self, kind, letters):
        """The place of the rest behind so many letters of a kind, a new one if it was not met yet."""
        start = self.closed.start
        key = tuple([one - letters if one - letters < two else two for one, two in zip(kind, start)])
        if key not in self.places:
            if len(self.rows) == MOST_RESTS:
                raise TooMany(MOST_RESTS)
            self.places[key] = len(self.rows)
            self.rows.append(key)
        return self.places[key]

    def moves(self):
        """For each rest the places of the rests behind 0, 1, 2 .. letters more."""
        return [tuple(self.kinds[number][taken:]) for number, taken in self.takes]

    def counts(self, beats):
        """For 0, 1 .. beats: for each rest how many traffics of so many beats may come behind it."""
        told = [[1] * len(self.rows)]
        for _ in range(beats):
            sums = [sums_from(places, told[-1]) for places in self.kinds]
            told.append([sums[number][taken] for number, taken in self.takes])
        return told


def sums_from(places, counts):
    """For each one of places the sum of the counts there, and at all places behind it."""
    told = [0] * len(places)
    total = 0
    for letters in range(len(places) - 1, -1, -1):
        if places[letters] is not None:
            total += counts[places[letters]]
            told[letters] = total
    return told


def all_rests(promise):
    """All rests of traffics that keep the promise, in the sequence in which they are met."""
    need_curve(promise)
    rests = Rests(promise)
    closed = rests.closed
    return tuple([made(list(row), closed.period, closed.growth) for row in rests.rows])


def all_moves(promise):
    """For each rest the places of the rests behind 0, 1, 2 .. letters more."""
    need_curve(promise)
    return tuple(Rests(promise).moves())


def count_kept(promise, beats):
    """How many traffics of just so many beats keep the promise."""
    need_curve(promise)
    need_number(beats, 0, MOST_BEATS, "beats")
    return Rests(promise).counts(beats)[beats][0]


def kept_at(promise, beats, place):
    """The traffic of so many beats at this place of all that keep the promise; None without one."""
    need_curve(promise)
    need_number(beats, 0, MOST_BEATS, "beats")
    if not is_number(place) or place < 0:
        raise BadNumber("place")
    rests = Rests(promise)
    moves = rests.moves()
    counts = rests.counts(beats)
    if counts[beats][0] <= place:
        return None
    rest = 0
    traffic = []
    for left in range(beats - 1, -1, -1):
        letters = 0
        while counts[left][moves[rest][letters]] <= place:
            place -= counts[left][moves[rest][letters]]
            letters += 1
        traffic.append(letters)
        rest = moves[rest][letters]
    return tuple(traffic)


def kept_place(promise, traffic):
    """The place of a traffic among all of its number of beats that keep the promise."""
    need_curve(promise)
    if not is_traffic(traffic) or len(traffic) > MOST_BEATS:
        raise BadTraffic("traffic")
    need_kept(traffic, promise)
    rests = Rests(promise)
    moves = rests.moves()
    counts = rests.counts(len(traffic))
    rest = 0
    place = 0
    for beat, letters in enumerate(traffic):
        left = counts[len(traffic) - beat - 1]
        place += sum([left[to] for to in moves[rest][:letters]])
        rest = moves[rest][letters]
    return place
