"""The syntax of texts: what may come next, whether a text may end, and how it ends soonest.

What is still wanted lies in a pile of tuples. The first one of each tells its
kind: "sign" and "word" want just the token beside them, "number" a number
within the two bounds beside it, "name" a word of its own. "term" wants an
expression without a sum, "more" maybe a plus and another one, "flat" a value,
"value" the first value of a row and "values" what comes behind one, "period"
and "growth" how the row goes on. "lines" and "table" want further lines, and
numbers of a timetable. In nets "server" and "flow" want a word above the last
one, "stop" a server of the path, "stops" further ones, and "servers" further
lines, "line" one of them.
"""

from worstwait.curves import MOST, MOST_GIVEN
from worstwait.kinds import is_word
from worstwait.tokens import is_digit, is_letter, joins

MOST_OPENED = 12
MOST_TERMS = 20
MOST_LINES = 12
MOST_TABLE = 60
MOST_SERVERS = 8
MOST_FLOWS = 8
MOST_PATH = 6
LONGEST = 12
LETTERS = "abcdefghijklmnopqrstuvwxyz"
OF_TWO = ("least", "most", "fold", "unfold")
OF_NUMBER = {"later": 4000, "sooner": 4000, "raised": 10 ** 9, "times": 10 ** 9}
ENDS = {"term": "[0]", "more": "", "flat": "0", "value": "0]", "values": "]", "period": "1", "lines": "",
        "servers": "", "stops": ""}
CLOSED = ("sign", ")")
TERM = ("more",), ("term",)
SERVER = ("servers",), ("more",), ("term",), ("word", "gives"), ("server",)
FLOW = (("stop",), ("word", "through"), ("number", 0, 99), ("word", "rank"), ("more",), ("term",),
        ("word", "keeps"), ("flow",))


class Syntax:
    """Where a text stands: wanted is the pile of what has to come, the next one last.

    terms tells how many rows and the like the expression has so far, row the
    row that is read, gap by how much it has to grow at least, names the words
    of the lines; in nets servers, flows and path are those told so far.
    """

    def __init__(self, wanted):
        self.wanted = list(wanted)
        self.terms = 0
        self.row = []
        self.gap = 0
        self.names = []
        self.servers = []
        self.flows = []
        self.path = []

    def twin(self):
        """Another one that stands at the same place."""
        other = Syntax(self.wanted)
        other.terms = self.terms
        other.row = list(self.row)
        other.gap = self.gap
        other.names = list(self.names)
        other.servers = list(self.servers)
        other.flows = list(self.flows)
        other.path = list(self.path)
        return other

    def next_ones(self):
        """What is wanted next: the last one, and those below it if it may be left out."""
        told = []
        for want in self.wanted[::-1]:
            told.append(want)
            if want[0] != "more":
                return told
        return told

    def tokens_for(self, want):
        """The words and signs that may come for what is wanted, but for names."""
        kind = want[0]
        if kind in ("sign", "word"):
            return [want[1]]
        if kind == "term":
            return self.terms_now()
        if kind == "more" and self.spare_terms() > 0:
            return ["+"]
        if kind == "flat":
            return ["none"]
        if kind in ("value", "values"):
            told = ["none"] if len(self.row) < MOST_GIVEN else []
            return told + [";", "]"] if kind == "values" else told
        if kind == "lines" and len(self.names) < MOST_LINES:
            return ["\n"]
        if kind == "servers" and self.lines_now():
            return ["\n"]
        if kind == "line":
            return self.lines_now()
        if kind in ("stop", "stops"):
            return self.stops_now(kind)
        return []

    def lines_now(self):
        """With which words a further line of a net may begin."""
        told = []
        if not self.flows and len(self.servers) < MOST_SERVERS and self.has_above("server"):
            told.append("server")
        if self.servers and len(self.flows) < MOST_FLOWS and self.has_above("flow"):
            told.append("flow")
        return told

    def stops_now(self, kind):
        """The servers that may come next on a path, and behind the first one the end of the line."""
        told = []
        if len(self.path) < MOST_PATH:
            told = [word for word in self.servers if word not in self.path]
        return told + ["\n"] if kind == "stops" and self.lines_now() else told

    def last_word(self, kind):
        """The last word told so far of servers or of flows, "" ahead of the first one."""
        words = self.servers if kind == "server" else self.flows
        return words[-1] if words else ""

    def has_above(self, kind):
        """Whether a further word of a server or of a flow may come."""
        return word_above("", self.last_word(kind)) is not None

    def spare_terms(self):
        """How many rows and the like may still come beyond those that have to."""
        return MOST_TERMS - self.terms - self.wanted.count(("term",))

    def terms_now(self):
        """With which words and signs an expression may begin."""
        told = ["flat", "line", "late", "["]
        if self.wanted.count(CLOSED) < MOST_OPENED:
            told = told + ["(", "close"] + list(OF_NUMBER)
            if self.spare_terms() > 0:
                told = told + list(OF_TWO)
        return told

    def bounds_for(self, want):
        """The least and the greatest number that may come for what is wanted; None for none."""
        kind = want[0]
        if kind == "number":
            return want[1], want[2]
        if kind in ("flat", "value"):
            return 0, MOST
        if kind == "values" and len(self.row) < MOST_GIVEN:
            return self.row[-1], MOST
        if kind == "period":
            return 1, min(60, len(self.row))
        if kind == "growth":
            return self.gap, MOST
        if kind == "table" and len(self.row) < MOST_TABLE:
            return 0, MOST
        return None

    def fits_for(self, want, token):
        """Whether this token may come for what is wanted."""
        if is_digit(token[0]):
            bounds = self.bounds_for(want)
            if bounds is None or not is_figures(token):
                return False
            return bounds[0] <= int(token) <= bounds[1]
        if want[0] == "name":
            return is_word(token) and token not in self.names
        if want[0] in ("server", "flow"):
            return is_word(token) and token > self.last_word(want[0])
        return token in self.tokens_for(want)

    def fits(self, token):
        """Whether this token may come next."""
        return any([self.fits_for(want, token) for want in self.next_ones()])

    def take(self, token):
        """Go on behind a token that fits."""
        while not self.fits_for(self.wanted[-1], token):
            self.wanted.pop()
        want = self.wanted.pop()
        kind = want[0]
        if kind == "term":
            self.begin_term(token)
        elif kind == "more":
            self.wanted.extend(TERM)
        elif kind in ("value", "values"):
            self.go_on_in_row(token)
        elif kind == "period":
            self.gap = self.row[-1] - self.row[len(self.row) - int(token)]
        elif kind == "name":
            self.names.append(token)
        elif kind == "server":
            self.servers.append(token)
        elif kind == "flow":
            self.flows.append(token)
        elif kind in ("servers", "line", "stop", "stops"):
            self.go_on_in_net(kind, token)
        elif kind == "table":
            self.row.append(int(token))
            self.wanted.append(want)
        elif kind == "lines":
            self.terms = 0
            self.wanted.extend([want, ("number", 0, 300), ("word", "within")])
            self.wanted.extend(TERM)
            self.wanted.extend([("word", "keeps"), ("name",), ("word", "book")])

    def begin_term(self, token):
        """What has to come behind the first token of an expression."""
        if token in ("flat", "line", "late", "["):
            self.terms += 1
        if token == "[":
            self.row = []
            self.wanted.append(("value",))
        elif token == "flat":
            self.wanted.append(("flat",))
        elif token in ("line", "late"):
            first = ("number", 0, MOST if token == "line" else 300)
            self.wanted.extend([("number", 1, 60), ("sign", "/"), ("number", 0, MOST), first])
        else:
            self.wanted.append(CLOSED)
            if token in OF_NUMBER:
                self.wanted.extend([("number", 0, OF_NUMBER[token]), ("sign", ",")])
            self.wanted.extend(TERM)
            if token in OF_TWO:
                self.wanted.append(("sign", ","))
                self.wanted.extend(TERM)
            if token != "(":
                self.wanted.append(("sign", "("))

    def go_on_in_row(self, token):
        """What has to come behind a token within a row."""
        if is_digit(token[0]):
            self.row.append(int(token))
            self.wanted.append(("values",))
        elif token == "none":
            self.wanted.append(("sign", "]"))
        elif token == ";":
            self.gap = 0
            self.wanted.extend([("sign", "]"), ("growth",), ("word", "by"), ("period",)])

    def go_on_in_net(self, kind, token):
        """What has to come behind a newline, at the beginning of a line, and behind a word of a path."""
        if token == "\n":
            self.terms = 0
            self.path = []
            self.wanted.append(("line",))
        elif kind == "line":
            self.wanted.extend(SERVER if token == "server" else FLOW)
        else:
            self.path.append(token)
            self.wanted.append(("stops",))

    def may_end(self):
        """Whether nothing more has to come."""
        return self.ending("") == ""

    def ending(self, last):
        """The shortest string, of several the least one, that ends a text whose last sign is this one."""
        told = last
        for want in self.wanted[::-1]:
            end = self.end_for(want)
            if told and end and joins(told[-1], end[0]):
                end = " " + end
            told = told + end
        return told[len(last):]

    def end_for(self, want):
        """The shortest string, of several the least one, for what is wanted."""
        kind = want[0]
        if kind in ENDS:
            return ENDS[kind]
        if kind in ("sign", "word"):
            return want[1]
        if kind == "name":
            return self.name_from("")
        if kind in ("server", "flow"):
            return word_above("", self.last_word(kind))
        if kind == "stop":
            return shortest(self.stops_now(kind))
        if kind == "line":
            return self.line_for(want)
        if kind == "table" and self.row:
            return ""
        return "0" if kind == "table" else str(self.bounds_for(want)[0])

    def line_for(self, want):
        """The shortest line, of several the least one."""
        told = []
        for token in self.lines_now():
            other = self.twin()
            other.wanted = [want]
            other.take(token)
            told.append(token + other.ending(token[-1]))
        return shortest(told)

    def name_from(self, part):
        """The shortest name, of several the least one, that begins with part; None without one."""
        if part and part not in self.names:
            return part if is_word(part) else None
        if len(part) == LONGEST:
            return None
        return min([part + letter for letter in LETTERS if part + letter not in self.names])

    def tokens_from(self, part):
        """The tokens that may come next and begin with part, those that can't end a text sooner left out."""
        told = []
        for want in self.next_ones():
            if is_letter(part[0]):
                told.extend([token for token in self.tokens_for(want) if token.startswith(part)])
                name = None
                if want[0] == "name":
                    name = self.name_from(part)
                if want[0] in ("server", "flow"):
                    name = word_above(part, self.last_word(want[0]))
                if name is not None:
                    told.append(name)
            elif self.bounds_for(want) is not None:
                low, high = self.bounds_for(want)
                # How far a row has to grow hangs on its period, so that each one counts.
                if want[0] == "period":
                    told.extend([str(one) for one in range(low, high + 1) if str(one).startswith(part)])
                else:
                    told.extend(numbers_from(part, low, high))
        return told

    def fitting(self, token):
        """How many signs at the beginning of a token are one of a token that may come next."""
        if not (is_letter(token[0]) or is_digit(token[0])):
            return 0
        many = min(len(token), LONGEST)
        while many > 0 and not self.tokens_from(token[:many]):
            many -= 1
        return many

    def ended_from(self, part):
        """The shortest string, of several the least one, that ends a text behind a part of a token."""
        told = []
        for token in self.tokens_from(part):
            other = self.twin()
            other.take(token)
            told.append(token[len(part):] + other.ending(token[-1]))
        return shortest(told)


def shortest(texts):
    """The shortest text, of several the least one."""
    return min(texts, key=lambda text: (len(text), text))


def word_above(part, last):
    """The shortest word, of several the least one, that begins with part and is above last; None without one."""
    if part > last:
        return part if is_word(part) else None
    if not last.startswith(part):
        return None
    for many in range(len(part), min(len(last) + 1, LONGEST)):
        words = [last[:many] + letter for letter in LETTERS if last[:many] + letter > last]
        if words:
            return words[0]
    return None


def is_figures(token):
    """Whether these digits are the figures of a number that is not above all bounds."""
    return len(token) <= 10 and (token == "0" or token[0] != "0")


def numbers_from(part, low, high):
    """A list of the least of the shortest numbers within bounds that begin with part; [] without one."""
    if not is_figures(part):
        return []
    first = int(part)
    span = 1
    while first * span <= high:
        least = max(low, first * span)
        if least <= high and least < (first + 1) * span:
            return [str(least)]
        if first == 0:
            return []
        span = span * 10
    return []
