"""Plays of stations: which letters leave at which beat."""

from math import lcm

from worstwait.errors import BadRows, TooMany
from worstwait.kinds import is_number
from worstwait.stations import is_rows

MOST_BEATS = 4000


class Ranks:
    """Letters that leave by rank: heaps tells how many of each flow lie there."""

    def __init__(self, flows):
        self.heaps = [0] * flows

    def come(self, letters):
        """So many letters of each flow come."""
        self.heaps = [heap + more for heap, more in zip(self.heaps, letters)]

    def leave(self, many):
        """So many letters leave, as many being there: how many of each flow."""
        told = []
        for heap in self.heaps:
            told.append(min(heap, many))
            many -= told[-1]
        self.heaps = [heap - less for heap, less in zip(self.heaps, told)]
        return tuple(told)


class Come:
    """Letters that leave as they came: lots has pairs of a flow and how many of it came at once.

    begun tells which lot is the first one there, spent how many of it have left.
    """

    def __init__(self, flows):
        self.flows = flows
        self.lots = []
        self.begun = 0
        self.spent = 0

    def come(self, letters):
        """So many letters of each flow come."""
        for flow, many in enumerate(letters):
            if many > 0:
                self.lots.append((flow, many))

    def leave(self, many):
        """So many letters leave, as many being there: how many of each flow."""
        told = [0] * self.flows
        while many > 0:
            flow, size = self.lots[self.begun]
            part = min(many, size - self.spent)
            told[flow] += part
            many -= part
            self.spent += part
            if self.spent == size:
                self.begun += 1
                self.spent = 0
        return tuple(told)


class Turns:
    """Letters that leave by turns: holder is the flow that holds, to_go how many of it are to go."""

    def __init__(self, quanta):
        self.quanta = quanta
        self.heaps = [0] * len(quanta)
        self.holder = 0
        self.to_go = quanta[0]

    def come(self, letters):
        """So many letters of each flow come."""
        self.heaps = [heap + more for heap, more in zip(self.heaps, letters)]

    def leave(self, many):
        """So many letters leave, as many being there: how many of each flow."""
        told = [0] * len(self.quanta)
        while many > 0:
            part = min(many, self.to_go, self.heaps[self.holder])
            if part == 0:
                self.holder = (self.holder + 1) % len(self.quanta)
                self.to_go = self.quanta[self.holder]
            else:
                told[self.holder] += part
                self.heaps[self.holder] -= part
                self.to_go -= part
                many -= part
        return tuple(told)


class Shares:
    """Letters that leave by shares: marks has for each flow those of its letters, left how many left."""

    def __init__(self, shares):
        whole = 1
        for share in shares:
            whole = lcm(whole, share)
        self.mark_steps = [whole // share for share in shares]
        self.mark = 0
        self.next_marks = [0] * len(shares)
        self.marks = [[] for _ in shares]
        self.left = [0] * len(shares)

    def come(self, letters):
        """So many letters of each flow come."""
        for flow, many in enumerate(letters):
            for _ in range(many):
                mark = max(self.mark, self.next_marks[flow])
                self.marks[flow].append(mark)
                self.next_marks[flow] = mark + self.mark_steps[flow]

    def leave(self, many):
        """So many letters leave, as many being there: how many of each flow."""
        told = [0] * len(self.left)
        for _ in range(many):
            heads = self.first_marks()
            self.mark, flow = min(heads)
            self.left[flow] += 1
            told[flow] += 1
            if len(heads) == 1 and self.left[flow] == len(self.marks[flow]):
                self.mark = max(self.next_marks)
        return tuple(told)

    def first_marks(self):
        """For each flow that has letters the mark of the first one, and the flow."""
        places = list(enumerate(self.left))
        return [(self.marks[flow][gone], flow) for flow, gone in places if gone < len(self.marks[flow])]


def queue_of(rule):
    """What lies at a station of this rule, ahead of beat 0."""
    word, told = rule
    if word == "ranks":
        return Ranks(told)
    if word == "come":
        return Come(told)
    return Turns(told) if word == "turns" else Shares(told)


def leavings(station, rows):
    """What played tells, of rows that are known to be right, in a list."""
    queue = queue_of(station.rule)
    speeds = station.speeds
    nothing = (0,) * station.flows
    told = []
    there = 0
    beat = 0
    while beat < len(rows[0]) or there > 0:
        if beat == MOST_BEATS:
            raise TooMany(MOST_BEATS)
        if beat < len(rows[0]):
            letters = [row[beat] for row in rows]
            queue.come(letters)
            there += sum(letters)
        many = min(there, speeds[beat % len(speeds)])
        there -= many
        told.append(queue.leave(many) if many > 0 else nothing)
        beat += 1
    return told


def need_rows_of(station, rows):
    """Raise the errors of what is no station and of what are no rows for it."""
    if not is_rows(station, rows):
        raise BadRows("rows of numbers for each flow of the station are wanted")


def played(station, rows):
    """For each beat how many letters of each flow leave."""
    need_rows_of(station, rows)
    return tuple(leavings(station, rows))


def beats_of(row):
    """The beats of letters, one by one, of which a row tells how many there are at each beat."""
    return [beat for beat, letters in enumerate(row) for _ in range(letters)]


def letter_waits(station, rows):
    """For each flow the waits of its letters, in their sequence."""
    run = played(station, rows)
    told = []
    for flow, row in enumerate(rows):
        ends = beats_of([gone[flow] for gone in run])
        told.append(tuple([end - begin for begin, end in zip(beats_of(row), ends)]))
    return tuple(told)


def left_heaps(station, rows):
    """For each beat of the run how many letters of each flow are left behind it."""
    run = played(station, rows)
    heap = [0] * len(rows)
    told = []
    for beat, gone in enumerate(run):
        come = [row[beat] if beat < len(row) else 0 for row in rows]
        heap = [old + more - less for old, more, less in zip(heap, come, gone)]
        told.append(tuple(heap))
    return tuple(told)


def first_unlike(station, rows, thing):
    """The first beat at which a thing is not the run; None if it is the run."""
    run = played(station, rows)
    if not isinstance(thing, tuple):
        return 0
    for beat, (told, want) in enumerate(zip(thing, run)):
        if not isinstance(told, tuple) or not all([is_number(one) for one in told]):
            return beat
        if told != want:
            return beat
    return None if len(thing) == len(run) else min(len(thing), len(run))
