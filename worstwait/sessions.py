"""Sessions: a net that is worked on, deed by deed, and each deed taken back and done again."""

from worstwait.changes import changed, is_change, unlike_of
from worstwait.errors import BadDeed, BadSession, NotLet
from worstwait.kinds import is_word, need_number
from worstwait.limits import is_limit
from worstwait.netbounds import net_bounds


def is_deed(thing):
    """Whether it is a deed."""
    if is_change(thing):
        return True
    if not isinstance(thing, tuple) or len(thing) < 2 or not isinstance(thing[0], str) or not is_word(thing[1]):
        return False
    if thing[0] == "limit":
        return len(thing) == 3 and is_limit(thing[2])
    return thing[0] == "free" and len(thing) == 2


class Stand:
    """What there is behind some deeds: a net, and the limits of its flows.

    told is what net_bounds tells of the net, None as long as nobody asked.
    """

    def __init__(self, net, most):
        self.net = net
        self.most = most
        self.told = None

    def bounds(self):
        """What net_bounds tells of the net."""
        if self.told is None:
            self.told = net_bounds(self.net)
        return self.told

    def broken(self):
        """The flows that break their limits, ascending."""
        waits = {word: whole for word, (whole, rows) in self.bounds().items() if word in self.most}
        return [word for word, wait in waits.items() if wait is None or wait > self.most[word]]

    def limited(self, most):
        """The same net with other limits."""
        stand = Stand(self.net, most)
        stand.told = self.told
        return stand

    def behind(self, deed):
        """What there is behind one deed more."""
        kind, word = deed[:2]
        others = {other: number for other, number in self.most.items() if other != word}
        if kind == "limit":
            if word not in [flow[0] for flow in self.net.flows]:
                raise NotLet("word")
            others[word] = deed[2]
            return self.limited(others)
        if kind == "free":
            if word not in self.most:
                raise NotLet("word")
            return self.limited(others)
        return Stand(changed(self.net, deed), others if kind == "gone" else self.most)


class Session:
    """A session: first is the net it began with, net the present one.

    done has the present deeds, stands what there is behind none, one and so
    on of them; taken_back has the undone deeds and what there was behind
    them, the one to be done again next last.
    """

    def __init__(self, net):
        stand = Stand(net, {})
        stand.bounds()
        self.first = net
        self.net = net
        self.done = []
        self.stands = [stand]
        self.taken_back = []

    def __eq__(self, other):
        if not isinstance(other, Session):
            return False
        return (self.first, self.done, self.undone()) == (other.first, other.done, other.undone())

    def stand_behind(self, deed):
        """What there would be behind one deed more."""
        if not is_deed(deed):
            raise BadDeed("a change, a limit or its end is wanted")
        stand = self.stands[-1].behind(deed)
        stand.bounds()
        return stand

    def put_on(self, deed, stand):
        """Go on to what there is behind a deed."""
        self.done.append(deed)
        self.stands.append(stand)
        self.net = stand.net

    def do(self, deed):
        """Do a deed."""
        stand = self.stand_behind(deed)
        self.put_on(deed, stand)
        self.taken_back = []

    def undo(self):
        """Take the last deed back."""
        if not self.done:
            raise NotLet("undo")
        self.taken_back.append((self.done.pop(), self.stands.pop()))
        self.net = self.stands[-1].net

    def redo(self):
        """Do again the deed that was taken back last."""
        if not self.taken_back:
            raise NotLet("redo")
        deed, stand = self.taken_back.pop()
        self.put_on(deed, stand)

    def bounds(self):
        """The bounds of the present net."""
        return dict(self.stands[-1].bounds())

    def limits(self):
        """The present limits, ascending."""
        most = self.stands[-1].most
        return {word: most[word] for word in sorted(list(most))}

    def broken(self):
        """The flows that break their limits, ascending."""
        return self.stands[-1].broken()

    def deeds(self):
        """The list of the present deeds."""
        return list(self.done)

    def undone(self):
        """The list of the deeds taken back, the one to be done again next first."""
        return [deed for deed, stand in self.taken_back[::-1]]

    def what_if(self, deed):
        """The unlike bounds behind a deed, and which limits would be broken; nothing is changed."""
        stand = self.stand_behind(deed)
        return unlike_of(self.stands[-1].bounds(), stand.bounds()), stand.broken()

    def since(self, number):
        """The unlike bounds of the net behind the first so many deeds and of the present one."""
        need_number(number, 0, len(self.done), "number")
        return unlike_of(self.stands[number].bounds(), self.stands[-1].bounds())


def need_session(thing):
    """Raise the error of what is no session unless it is one."""
    if not isinstance(thing, Session):
        raise BadSession("a session is wanted")
