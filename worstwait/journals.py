"""Journals: texts of deeds, sessions taken up by them, and deeds that can be left out."""

from worstwait.curvetexts import curve_of_text
from worstwait.errors import BadDeed, BadLine, BadText, NotLet, TooMany
from worstwait.kinds import is_list
from worstwait.limits import MOST_LIMIT
from worstwait.nets import need_net
from worstwait.nettexts import flow_line, server_line
from worstwait.sessions import Session, is_deed, need_session
from worstwait.tokens import is_digit

MOST_TRIMMED = 64


def deed_text(deed):
    """The text of a deed."""
    if not is_deed(deed):
        raise BadDeed("a change, a limit or its end is wanted")
    if deed[0] == "server":
        return server_line(deed[1], deed[2])
    if deed[0] == "flow":
        return flow_line(deed[1], deed[2], deed[3], deed[4])
    return " ".join([str(one) for one in deed])


def deed_of_text(text):
    """The deed that a text tells."""
    told = deed_told(text) if isinstance(text, str) else None
    if told is None or not is_deed(told) or deed_text(told) != text:
        raise BadLine(None)
    return told


def deed_told(text):
    """The deed that a text tells, if it is one; otherwise anything else."""
    kind, _, rest = text.partition(" ")
    word, blank, rest = rest.partition(" ")
    if kind in ("close", "gone", "free"):
        return None if blank else (kind, word)
    if kind == "limit":
        return kind, word, number_told(rest)
    if kind == "server":
        return kind, word, curve_told(rest.partition(" ")[2])
    if kind == "flow":
        return (kind, word) + flow_told(rest)
    return None


def flow_told(rest):
    """Promise, path and rank of a flow, if what stands behind its word tells them."""
    curve, _, rest = rest.partition(" ")[2].partition(" rank ")
    rank, _, path = rest.partition(" through ")
    return curve_told(curve), tuple(path.split(" ")), number_told(rank)


def number_told(text):
    """The number of at most as many figures as the greatest limit; None for anything else."""
    if not 1 <= len(text) <= len(str(MOST_LIMIT)) or not all([is_digit(sign) for sign in text]):
        return None
    return int(text)


def curve_told(text):
    """The curve of a text that is a row, a line or the like alone; None for anything else."""
    # With brackets, or as a sum, it is the one text of no curve.
    if "(" in text or "+" in text:
        return None
    try:
        return curve_of_text(text)
    except BadText:
        return None


def journal(session):
    """The texts of the present deeds of a session."""
    need_session(session)
    return [deed_text(deed) for deed in session.done]


def taken_up(net, lines):
    """The session that did all deeds of a journal."""
    need_net(net)
    if not is_list(lines):
        raise BadLine(None)
    session = Session(net)
    for number, line in enumerate(lines):
        try:
            session.do(deed_of_text(line))
        except (BadLine, NotLet, TooMany):
            raise BadLine(number)
    return session


def trimmed(session):
    """The deeds that are left when each is left out that can be, from the last to the first, again and again."""
    need_session(session)
    if len(session.done) > MOST_TRIMMED:
        raise TooMany(MOST_TRIMMED)
    deeds = list(session.done)
    stands = list(session.stands)
    before = None
    while before != len(deeds):
        before = len(deeds)
        for place in range(len(deeds) - 1, -1, -1):
            further = stands_without(deeds, stands, place)
            if further is not None:
                stands = stands[:place + 1] + further
                deeds = deeds[:place] + deeds[place + 1:]
    return deeds


def stands_without(deeds, stands, place):
    """What there is behind each deed behind a place if the one at this place is left out.

    None if one of them can't be done then, or if they lead to something else.
    """
    stand = stands[place]
    further = []
    while not is_same(stand, stands[place + 1 + len(further)]):
        following = place + 1 + len(further)
        if following == len(deeds):
            return None
        try:
            stand = stand.behind(deeds[following])
        except NotLet:
            return None
        further.append(stand)
    if not all([can_be_told(one) for one in further]):
        return None
    # From here on there is again what there was, one deed sooner.
    return further + stands[place + 2 + len(further):]


def is_same(stand, other):
    """Whether there are the same net and the same limits."""
    return stand.net == other.net and stand.most == other.most


def can_be_told(stand):
    """Whether the bounds of the net are told."""
    try:
        stand.bounds()
    except TooMany:
        return False
    return True
