"""A desk: lines that are said to a session, and its answers."""

from worstwait.changes import unlike_of
from worstwait.errors import BadLine, NotLet, TooMany
from worstwait.journals import deed_of_text, journal
from worstwait.limits import MOST_TRIES, burst_room, fewest_gone, least_speed
from worstwait.sessions import Session
from worstwait.tokens import is_digit


class Desk:
    """A desk with a new session of a net."""

    def __init__(self, net):
        self.session = Session(net)

    def say(self, line):
        """The answer to a line: a tuple of strings."""
        if not isinstance(line, str):
            return ("what",)
        try:
            told = answer(self.session, line)
        except NotLet as error:
            return ("cannot " + error.why,)
        except TooMany:
            return ("too many",)
        except BadLine:
            return ("what",)
        return tuple(told) if told else ("nothing",)


def answer(session, line):
    """The list of the lines of the answer."""
    if line in ("undo", "redo"):
        return done_again(session, line)
    if line in ("bounds", "limits", "broken", "journal", "go"):
        return asked(session, line)
    word = line.partition(" ")[0]
    if word in ("room", "speed"):
        return tried(session, line.split(" "))
    if word == "if":
        found = session.what_if(deed_of_text(line.partition(" ")[2]))
        return unlike_lines(found[0])
    session.do(deed_of_text(line))
    return unlike_lines(session.since(len(session.done) - 1))


def done_again(session, line):
    """The answer to undo and to redo."""
    before = session.stands[-1]
    if line == "undo":
        session.undo()
    else:
        session.redo()
    return unlike_lines(unlike_of(before.bounds(), session.stands[-1].bounds()))


def asked(session, line):
    """The answer to a line that only asks, and is one word."""
    if line == "bounds":
        return [bounds_line(word, found) for word, found in session.bounds().items()]
    if line == "limits":
        return [word + " " + str(most) for word, most in session.limits().items()]
    if line == "broken":
        return session.broken()
    if line == "journal":
        return journal(session)
    return fewest_gone(session.net, session.limits())


def tried(session, words):
    """The answer to a line that asks how far the net can be changed."""
    if len(words) != 3 or not is_number_told(words[2]):
        raise BadLine(None)
    net = session.net
    kind, word, number = words
    if kind == "room":
        if word not in [flow[0] for flow in net.flows]:
            raise BadLine(None)
        return [value_text(burst_room(net, session.limits(), word, int(number)))]
    if word not in [server[0] for server in net.servers]:
        raise BadLine(None)
    return [value_text(least_speed(net, session.limits(), word, int(number)))]


def is_number_told(text):
    """Whether it tells a number of at most 200 in figures, no 0 ahead of others."""
    if not 1 <= len(text) <= 3 or not all([is_digit(sign) for sign in text]):
        return False
    return str(int(text)) == text and int(text) <= MOST_TRIES


def value_text(number):
    """A number in figures, none for None."""
    return "none" if number is None else str(number)


def values_text(numbers):
    """Numbers in figures, no in the place of them all if there are none."""
    if numbers is None:
        return "no"
    return " ".join([value_text(number) for number in numbers])


def bounds_line(word, found):
    """The line of what net_bounds tells of a flow."""
    whole, rows = found
    told = [word, value_text(whole)]
    for server, wait, heap in rows:
        told.extend([server, value_text(wait), value_text(heap)])
    return " ".join(told)


def unlike_lines(rows):
    """A line for each quadruple of unlike bounds."""
    told = []
    for flow, server, before, behind in rows:
        ahead = flow if server == "" else flow + " " + server
        told.append(ahead + " " + values_text(before) + " > " + values_text(behind))
    return told
