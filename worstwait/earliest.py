"""Ways out of rows that come to a gate, and those with which what is due earliest goes first."""

from worstwait.bookings import MOST_BOOKINGS, MOST_DEADLINE
from worstwait.errors import BadDeadlines, BadRows, BadWays
from worstwait.gates import need_timetable
from worstwait.kinds import is_from, is_list, need_number
from worstwait.traffics import is_row


def is_rows_of(thing, many, length):
    """Whether it is a list of so many rows of this length."""
    if not is_list(thing) or len(thing) != many:
        return False
    return all([is_row(row) and len(row) == length for row in thing])


def need_rows(rows):
    """Raise the error of what are no rows unless they are a list of 1 to 12, all as long."""
    if not is_list(rows) or not 1 <= len(rows) <= MOST_BOOKINGS or not is_row(rows[0]):
        raise BadRows("a list of 1 to 12 rows of one length is wanted")
    if not is_rows_of(rows, len(rows), len(rows[0])):
        raise BadRows("a list of 1 to 12 rows of one length is wanted")


def need_coming(table, phase, rows):
    """Raise the errors of what is no gate at a phase to which rows come."""
    need_timetable(table)
    need_number(phase, 0, len(table) - 1, "phase")
    need_rows(rows)


def need_deadlines(deadlines, rows):
    """Raise the error of what is no list of a deadline for each row unless it is one."""
    if not is_list(deadlines) or len(deadlines) != len(rows):
        raise BadDeadlines("a list of a number from 0 to 300 for each row is wanted")
    if not all([is_from(one, 0, MOST_DEADLINE) for one in deadlines]):
        raise BadDeadlines("a list of a number from 0 to 300 for each row is wanted")


def go_out_of(rows, thing):
    """Whether it is a list of as many rows, each at most the one that comes at each beat."""
    if not is_rows_of(thing, len(rows), len(rows[0])):
        return False
    return all([gone <= came for way, row in zip(thing, rows) for gone, came in zip(way, row)])


def is_way_out(table, phase, rows, thing):
    """Whether these are ways out of rows that come to a gate at this phase."""
    need_coming(table, phase, rows)
    if not go_out_of(rows, thing):
        return False
    gone = [sum([way[beat] for way in thing]) for beat in range(len(rows[0]))]
    lets = [table[(phase + beat) % len(table)] for beat in range(len(gone) - 1)]
    return all([two - one <= let for one, two, let in zip(gone, gone[1:], lets)])


class Queues:
    """Rows at a gate: gone tells how many letters of each row went out, heads the beat of the next one."""

    def __init__(self, rows, deadlines):
        self.rows = rows
        self.deadlines = deadlines
        self.gone = [0] * len(rows)
        self.heads = [0] * len(rows)

    def most_urgent(self, beat):
        """The first row with a letter, come up to this beat, that is due earliest; None without letters."""
        best = None
        for place, row in enumerate(self.rows):
            head = self.heads[place]
            while head <= beat and row[head + 1] <= self.gone[place]:
                head += 1
            self.heads[place] = head
            if head <= beat:
                told = head + self.deadlines[place], place
                if best is None or told < best:
                    best = told
        return None if best is None else best[1]

    def send(self, beat, letters):
        """Up to so many letters go out in a beat."""
        while letters > 0:
            place = self.most_urgent(beat)
            if place is None:
                return
            many = min(letters, self.rows[place][self.heads[place] + 1] - self.gone[place])
            self.gone[place] += many
            letters -= many


def earliest_run(table, phase, rows, deadlines):
    """The ways out with which what is due earliest goes first."""
    need_coming(table, phase, rows)
    need_deadlines(deadlines, rows)
    queues = Queues(rows, deadlines)
    told = [[0] for _ in rows]
    for beat in range(len(rows[0]) - 1):
        queues.send(beat, table[(phase + beat) % len(table)])
        for way, gone in zip(told, queues.gone):
            way.append(gone)
    return [tuple(way) for way in told]


def missed(rows, ways, deadlines):
    """The first beat at which a letter is due and has not gone out, and its row; None without one."""
    need_rows(rows)
    if not go_out_of(rows, ways):
        raise BadWays("as many rows are wanted, each at most the one that comes")
    need_deadlines(deadlines, rows)
    for beat in range(len(rows[0])):
        for place, deadline in enumerate(deadlines):
            if beat >= deadline and ways[place][beat] < rows[place][beat - deadline]:
                return beat, place
    return None
