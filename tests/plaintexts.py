"""Texts read sign by sign, as [80] to [83] tell them, for tests alone.

A text is looked at with an END behind it. Without one it is a beginning if
nothing is wrong up to where it breaks off.
"""

END = "$"
LETTERS = "abcdefghijklmnopqrstuvwxyz"
BIG = 10 ** 9
FUNCTIONS = {"least": None, "most": None, "fold": None, "unfold": None, "close": 0,
             "later": 4000, "sooner": 4000, "raised": BIG, "times": BIG}


class Wrong(Exception):
    """At which sign it goes wrong."""


class Off(Exception):
    """The text breaks off, and may go on."""


def begins_a_number(figures, low, high):
    for zeros in range(11 - len(figures)):
        if figures[0] == "0" and len(figures) + zeros > 1:
            continue
        if int(figures + "0" * zeros) <= high and int(figures + "9" * zeros) >= low:
            return True
    return False


class Reader:
    def __init__(self, text):
        self.text = text
        self.at = 0
        self.terms = 0

    def next(self):
        while self.at < len(self.text) and self.text[self.at] == " ":
            self.at += 1
        if self.at == len(self.text):
            raise Off
        return self.text[self.at]

    def sign(self, sign):
        if self.next() != sign:
            raise Wrong(self.at)
        self.at += 1

    def run(self, letters):
        end = self.at
        while end < len(self.text) and (self.text[end] in letters):
            end += 1
        return self.text[self.at:end]

    def token(self, letters, begins, fits):
        """A run all beginnings of which may begin a token, and that is one."""
        run = self.run(letters)
        for many in range(1, len(run) + 1):
            if not begins(run[:many]):
                raise Wrong(self.at + many - 1)
        if self.at + len(run) == len(self.text):
            raise Off
        self.at += len(run)
        if not fits(run):
            raise Wrong(self.at)
        return run

    def word(self, *words):
        if self.next() not in "abcdefghijklmnopqrstuvwxyz":
            raise Wrong(self.at)
        return self.token("abcdefghijklmnopqrstuvwxyz", lambda run: any(word.startswith(run) for word in words),
                          lambda run: run in words)

    def number(self, low, high):
        if self.next() not in "0123456789":
            raise Wrong(self.at)
        return int(self.token("0123456789", lambda run: len(run) <= 10 and begins_a_number(run, low, high),
                              lambda run: low <= int(run) <= high))

    def value(self, low):
        if self.next() == "n":
            self.word("none")
            return None
        return self.number(low, BIG)

    def expression(self, opened, behind):
        """behind: how many flat, line, late and rows at least have to come behind this expression."""
        self.term(opened, behind)
        while self.next() == "+":
            if self.terms + 1 + behind > 20:
                raise Wrong(self.at)
            self.at += 1
            self.term(opened, behind)

    def term(self, opened, behind):
        sign = self.next()
        if sign == "[":
            self.at += 1
            self.terms += 1
            return self.row()
        if sign == "(":
            if opened == 12:
                raise Wrong(self.at)
            self.at += 1
            self.expression(opened + 1, behind)
            return self.sign(")")
        words = ["flat", "line", "late"]
        if opened < 12:
            words += [word for word in FUNCTIONS if FUNCTIONS[word] is not None or self.terms + 2 + behind <= 20]
        word = self.word(*words)
        if word in FUNCTIONS:
            return self.function(FUNCTIONS[word], opened, behind)
        self.terms += 1
        if word == "flat":
            return self.value(0)
        self.number(0, 300 if word == "late" else BIG)
        self.number(0, BIG)
        self.sign("/")
        self.number(1, 60)

    def function(self, most, opened, behind):
        self.sign("(")
        self.expression(opened + 1, behind + (most is None))
        if most is None:
            self.sign(",")
            self.expression(opened + 1, behind)
        elif most:
            self.sign(",")
            self.number(0, most)
        self.sign(")")

    def row(self):
        row = [self.value(0)]
        while row[-1] is not None and self.next() not in ";]":
            if len(row) == 400:
                raise Wrong(self.at)
            row.append(self.value(row[-1]))
        if row[-1] is not None and self.next() == ";":
            self.at += 1
            period = self.number(1, min(60, len(row)))
            self.word("by")
            self.number(row[-1] - row[-period], BIG)
        self.sign("]")

    def curve(self):
        self.expression(0, 0)
        self.sign(END)

    def bookings(self):
        self.word("bookings")
        names = []
        while self.next() != END:
            if len(names) == 12:
                raise Wrong(self.at)
            self.sign("\n")
            self.word("book")
            if self.next() not in "abcdefghijklmnopqrstuvwxyz":
                raise Wrong(self.at)
            names.append(self.token("abcdefghijklmnopqrstuvwxyz",
                                    lambda run: len(run) < 12 or len(run) == 12 and run not in names,
                                    lambda run: run not in names))
            self.word("keeps")
            self.terms = 0
            self.expression(0, 0)
            self.word("within")
            self.number(0, 300)

    def word_above(self, last):
        """A word above the last one: a beginning is one as long as some word of up to 12 letters is above."""
        if self.next() not in LETTERS:
            raise Wrong(self.at)
        return self.token(LETTERS, lambda run: len(run) <= 12 and (run + "z" * 12)[:12] > last,
                          lambda run: run > last)

    def line(self, words):
        """The first word of a line, one of these; a newline alone is no beginning without one."""
        if not words:
            raise Wrong(self.at)
        self.sign("\n")
        return self.word(*words)

    def net(self):
        self.word("net")
        servers, flows = [], []
        while self.next() != END or not servers:
            words = []
            if not flows and len(servers) < 8 and "z" * 12 not in servers:
                words.append("server")
            if servers and len(flows) < 8 and "z" * 12 not in flows:
                words.append("flow")
            if self.line(words) == "server":
                servers.append(self.word_above(servers[-1] if servers else ""))
                self.word("gives")
                self.terms = 0
                self.expression(0, 0)
            else:
                flows.append(self.word_above(flows[-1] if flows else ""))
                self.word("keeps")
                self.terms = 0
                self.expression(0, 0)
                self.word("rank")
                self.number(0, 99)
                self.word("through")
                self.path(servers)

    def path(self, servers):
        path = []
        while not path or self.next() not in END + "\n":
            left = [word for word in servers if word not in path]
            if len(path) == 6 or not left:
                raise Wrong(self.at)
            path.append(self.word(*left))

    def timetable(self):
        self.word("timetable")
        self.number(0, BIG)
        many = 1
        while self.next() != END:
            if many == 60:
                raise Wrong(self.at)
            self.number(0, BIG)
            many += 1


def place_of_wrong(text, kind):
    """None for a text; otherwise how many signs at its beginning are a beginning."""
    try:
        getattr(Reader(text + END), kind)()
        return None
    except Wrong:
        pass
    try:
        getattr(Reader(text), kind)()
    except Off:
        return len(text)
    except Wrong as wrong:
        return wrong.args[0]
    raise AssertionError(text)


def is_beginning(text, kind):
    at = place_of_wrong(text, kind)
    return at is None or at == len(text)


SIGNS = " ()+,/0123456789;[]abcdefghijklmnopqrstuvwxyz\n"


def plain_tail(text, kind, most=4):
    """The shortest tail, of these the least one, by trying all signs behind all beginnings; up to most signs."""
    if not is_beginning(text, kind):
        return None
    ends = [""]
    for _ in range(most + 1):
        found = [end for end in ends if place_of_wrong(text + end, kind) is None]
        if found:
            return min(found)
        ends = [end + sign for end in ends for sign in SIGNS if is_beginning(text + end + sign, kind)]
    return "too long"
