"""Plays of stations, letter by letter."""

from math import lcm

from worstwait.errors import BadRows, TooMany
from worstwait.kinds import is_number
from worstwait.stations import is_rows

MOST_BEATS = 4000


class Play:
    """A station at work: what lies in it, and what its rule has to remember.

    queues holds for each flow the pairs (beat, mark) of all letters that
    came, left how many of them have left.
    """

    def __init__(self, station):
        self.station = station
        self.queues = [[] for _ in range(station.flows)]
        self.left = [0] * station.flows
        self.holder = 0
        self.to_go = 0
        self.mark = 0
        self.next_marks = [0] * station.flows
        self.mark_steps = [0] * station.flows
        word, told = station.rule
        if word == "turns":
            self.to_go = told[0]
        if word == "shares":
            whole = 1
            for share in told:
                whole = lcm(whole, share)
            self.mark_steps = [whole // share for share in told]

    def waiting(self):
        """The flows that have letters, the least first."""
        return [flow for flow, queue in enumerate(self.queues) if len(queue) > self.left[flow]]

    def head(self, flow):
        """The pair of the letter of this flow that leaves next."""
        return self.queues[flow][self.left[flow]]

    def come(self, flow, letters, beat):
        """So many letters of a flow come."""
        for _ in range(letters):
            mark = max(self.mark, self.next_marks[flow])
            self.queues[flow].append((beat, mark))
            self.next_marks[flow] = mark + self.mark_steps[flow]

    def leave(self):
        """One letter leaves, some letter being there: its flow."""
        flow = self.chosen()
        self.mark = self.head(flow)[1]
        self.left[flow] += 1
        if not self.waiting():
            self.mark = max(self.next_marks)
        return flow

    def chosen(self):
        """The flow whose letter leaves next."""
        word = self.station.rule[0]
        waiting = self.waiting()
        if word == "ranks":
            return waiting[0]
        if word == "come":
            return min([(self.head(flow)[0], flow) for flow in waiting])[1]
        if word == "shares":
            return min([(self.head(flow)[1], flow) for flow in waiting])[1]
        return self.turned_to(waiting)

    def turned_to(self, waiting):
        """The flow that holds, once it has letters and some to go: one less is to go then."""
        quanta = self.station.rule[1]
        while self.to_go == 0 or self.holder not in waiting:
            self.holder = (self.holder + 1) % len(quanta)
            self.to_go = quanta[self.holder]
        self.to_go -= 1
        return self.holder


def leavings(station, rows):
    """For each beat the list of the flows whose letters leave, one by one."""
    if not is_rows(station, rows):
        raise BadRows("rows of numbers for each flow of the station are wanted")
    play = Play(station)
    told = []
    while len(told) < len(rows[0]) or play.waiting():
        beat = len(told)
        if beat == MOST_BEATS:
            raise TooMany(MOST_BEATS)
        if beat < len(rows[0]):
            for flow, row in enumerate(rows):
                play.come(flow, row[beat], beat)
        gone = []
        while len(gone) < station.speeds[beat % len(station.speeds)] and play.waiting():
            gone.append(play.leave())
        told.append(gone)
    return told


def played(station, rows):
    """For each beat how many letters of each flow leave."""
    told = leavings(station, rows)
    return tuple([tuple([gone.count(flow) for flow in range(station.flows)]) for gone in told])


def letter_waits(station, rows):
    """For each flow the waits of its letters, in their sequence."""
    run = leavings(station, rows)
    ends = [[] for _ in rows]
    for beat, gone in enumerate(run):
        for flow in gone:
            ends[flow].append(beat)
    told = []
    for row, end in zip(rows, ends):
        begins = [beat for beat, letters in enumerate(row) for _ in range(letters)]
        told.append(tuple([last - first for first, last in zip(begins, end)]))
    return tuple(told)


def left_heaps(station, rows):
    """For each beat of the run how many letters of each flow are left behind it."""
    run = played(station, rows)
    heap = [0] * len(rows)
    told = []
    for beat, gone in enumerate(run):
        come = [row[beat] if beat < len(row) else 0 for row in rows]
        heap = [old + more - less for old, more, less in zip(heap, come, gone)]
        told.append(tuple(heap))
    return tuple(told)


def first_unlike(station, rows, thing):
    """The first beat at which a thing is not the run; None if it is the run."""
    run = played(station, rows)
    if not isinstance(thing, tuple):
        return 0
    for beat, (told, want) in enumerate(zip(thing, run)):
        if not isinstance(told, tuple) or not all([is_number(one) for one in told]):
            return beat
        if told != want:
            return beat
    return None if len(thing) == len(run) else min(len(thing), len(run))
