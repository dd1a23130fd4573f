"""[96]: journals."""

import unittest

from worstwait.curves import Curve, flat, late, line
from worstwait.curvetexts import curve_text
from worstwait.errors import BadDeed, BadLine, BadNet, BadSession, NotLet, TooMany
from worstwait.foldings import unit
from worstwait.joined import later, raised
from worstwait.journals import deed_of_text, deed_text, journal, taken_up, trimmed
from worstwait.nets import Net
from worstwait.sessions import Session
from tests.plain import Case, Lots
from tests.test_closures import two_parts
from tests.test_netbounds import small_net
from tests.test_nets import G, NO_NETS, P
from tests.test_sessions import NO_DEEDS, some_deed

NO_SESSIONS = (None, 0, "session", [], (), Net((("a", G),), ()))
DEEDS = (("server", "hub", late(1, 2, 1)), ("close", "hub"), ("flow", "x", Curve([0, 2], 1, 0), ("hub", "out"), 0),
         ("flow", "rank", line(0, 1, 1), ("through", "keeps"), 99), ("gone", "x"), ("limit", "x", 0),
         ("limit", "limit", 10 ** 6), ("free", "free"), ("server", "a", unit()), ("server", "z" * 12, line(0, 10 ** 9, 59)),
         ("flow", "y", flat(None), tuple("abcdef"), 10), ("flow", "y", Curve([1, 1, 4], 2, 7), ("a",), 1))
TEXTS = ("server hub gives late1 2/1", "close hub", "flow x keeps [0 2] rank 0 through hub out",
         "flow rank keeps [0;1by1] rank 99 through through keeps", "gone x", "limit x 0", "limit limit 1000000", "free free",
         "server a gives [0none]", "server zzzzzzzzzzzz gives late0 1000000000/59",
         "flow y keeps [none] rank 10 through a b c d e f", "flow y keeps [1 1 4;2by7] rank 1 through a")


def some_session(lots, deeds=8, most=3):
    session = Session(small_net(lots, most))
    for _ in range(deeds):
        try:
            session.do(some_deed(lots, session.net))
        except NotLet:
            pass
    return session


def leads_to(session, deeds):
    """Whether all of these can be done, from the first net on, and lead to the present net and limits."""
    other = Session(session.first)
    try:
        for deed in deeds:
            other.do(deed)
    except (NotLet, TooMany):
        return False
    return other.net == session.net and other.limits() == session.limits()


def plain_trimmed(session):
    deeds = session.deeds()
    while True:
        before = len(deeds)
        for place in reversed(range(len(deeds))):
            if leads_to(session, deeds[:place] + deeds[place + 1:]):
                del deeds[place]
        if len(deeds) == before:
            return deeds


class Texts(Case):
    def test_by_hand(self):
        for deed, text in zip(DEEDS, TEXTS):
            self.assertEqual(deed_text(deed), text)
            self.assertEqual(deed_of_text(text), deed)
            self.assertIs(type(deed_of_text(text)), tuple)

    def test_there_and_back(self):
        lots = Lots(691)
        for _ in range(200):
            deed = some_deed(lots, small_net(lots))
            self.assertEqual(deed_of_text(deed_text(deed)), deed)

    def test_one_sign_otherwise(self):
        """A text with one sign more, less or otherwise is none, or that of another deed, told the same way."""
        lots = Lots(692)
        told = 0
        for _ in range(3000):
            text = lots.of(TEXTS)
            place, sign = lots.below(len(text) + 1), lots.of(" 019abnz[];/\n+(A-")
            text = lots.of([text[:place] + sign + text[place:], text[:place] + text[place + 1:],
                            text[:place] + sign + text[place + 1:]])
            try:
                deed = deed_of_text(text)
            except BadLine as error:
                self.assertIsNone(error.number)
            else:
                self.assertEqual(deed_text(deed), text)
                told += 1
        self.assertGreater(told, 100)

    def test_no_texts(self):
        for text in (None, 3, True, b"gone x", ["gone x"], ("gone", "x"), "", " ", "gone", "gone ", "gone x ", " gone x", "gone  x",
                     "gone X", "gone " + "x" * 13, "gone x y", "Gone x", "limit x", "limit x 01", "limit x -1", "limit x +1",
                     "limit x 1000001", "limit x 10000000", "limit x 1 ", "limit x  1", "limit x one", "limit x \u0661", "free x 1",
                     "close", "close a b", "server a", "server a gives", "server a gives ", "server a gives [1]",
                     "server a gives [ 0]", "server a gives flat 0", "server a gives flat0", "server a gives late 1 2/1",
                     "server a gives late1 4/2", "server a gives line0 1/1", "server a gives [0;1by1] ", "server a  gives [0]",
                     "server a gives  [0]", "server a give [0]", "server a gives [0]+[0]", "server a gives ([0])",
                     "server a gives close(later([0 1;1by1],400))", "server a gives later([0 1],4000)", "server a gives [0 0]",
                     "server a gives [0\n]", "flow x keeps [1] rank 0 through", "flow x keeps [1] rank 0 through ",
                     "flow x keeps [1] rank 0 through a a", "flow x keeps [1] rank 0 through a  b",
                     "flow x keeps [1] rank 100 through a", "flow x keeps [1] rank 00 through a",
                     "flow x keeps [1] rank  0 through a", "flow x keeps [1] through a rank 0", "flow x keep [1] rank 0 through a",
                     "flow x keeps [1 1] rank 0 through a", "flow x keeps [1] rank 0 through a b c d e f g",
                     "flow x keeps [1] rank 0 through A", "flow x keeps [1]rank 0 through a", "flow x keeps [1] rank 0 thru a",
                     "flow  keeps [1] rank 0 through a", "undo", "x gone", "gone\tx", "gone x\n"):
            self.refuses(BadLine, deed_of_text, text, number=None)

    def test_too_many(self):
        for deed in (("server", "a", later(flat(1), 400)), ("flow", "x", raised(flat(10 ** 9), 1), ("a",), 0)):
            self.too_many(400, deed_text, deed)

    def test_refuses(self):
        for thing in NO_DEEDS:
            self.refuses(BadDeed, deed_text, thing)


class Journals(Case):
    def test_taken_up(self):
        lots = Lots(693)
        for _ in range(40):
            session = some_session(lots)
            while lots.below(3) == 0 and session.deeds():
                session.undo()
            lines = journal(session)
            self.assertEqual(lines, [deed_text(deed) for deed in session.deeds()])
            self.assertIs(type(lines), list)
            again = taken_up(session.first, tuple(lines))
            self.assertEqual((again.first, again.net, again.limits(), again.deeds(), again.undone()),
                             (session.first, session.net, session.limits(), session.deeds(), []))
            self.assertIs(again == session, not session.undone())

    def test_lines_that_are_wrong(self):
        net = Net((("a", G),), (("x", P, ("a",), 0),))
        self.assertEqual(taken_up(net, []), Session(net))
        for lines, number in ((["gone x", "gone x"], 1), (["gone y"], 0), (["free x"], 0), (["limit x 1", "free x", "free x"], 2),
                              (["limit x 1", "close a", "what"], 1), (["what", "gone y"], 0), ([None], 0), ([["gone x"]], 0),
                              (["server b gives [0]", "server b gives [0] "], 1),
                              (["server a gives [0;1by9]", "flow z keeps " + curve_text(two_parts(64, 10)) + " rank 1 through a",
                                "what"], 1)):
            self.refuses(BadLine, taken_up, net, lines, number=number)
        for lines in (None, 3, "gone x", {}, {0: "gone x"}, True):
            self.refuses(BadLine, taken_up, net, lines, number=None)
        for thing in NO_NETS:
            self.refuses(BadNet, taken_up, thing, None, part=None)
        self.assertRaises(TooMany, taken_up, Net((("a", G),), (("y", later(flat(1), 400), ("a",), 1),)), ["what"])

    def test_a_session_without_a_journal(self):
        session = Session(Net((("a", G),), ()))
        session.do(("server", "b", later(line(0, 1, 1), 500)))
        self.too_many(400, journal, session)
        self.assertEqual(trimmed(session), session.deeds())

    def test_refuses(self):
        for thing in NO_SESSIONS:
            self.refuses(BadSession, journal, thing)
            self.refuses(BadSession, trimmed, thing)


class Trimmed(Case):
    def test_as_told(self):
        lots = Lots(694)
        shorter = 0
        for _ in range(60):
            session = some_session(lots, 12, 2)
            before = (session.deeds(), session.undone(), session.net)
            told = trimmed(session)
            self.assertIs(type(told), list)
            self.assertEqual(told, plain_trimmed(session))
            self.assertTrue(leads_to(session, told))
            for place in range(len(told)):
                self.assertFalse(leads_to(session, told[:place] + told[place + 1:]))
            self.assertEqual((session.deeds(), session.undone(), session.net), before)
            shorter += len(told) < len(session.deeds())
        self.assertGreater(shorter, 30)

    def test_by_hand(self):
        net = Net((("a", G),), (("x", P, ("a",), 0),))
        gone, again = ("gone", "x"), ("flow", "x", P, ("a",), 0)
        for deeds, left in (([], []), ([("limit", "x", 1), ("limit", "x", 2)], [("limit", "x", 2)]),
                            ([("limit", "x", 1), ("limit", "x", 1)], [("limit", "x", 1)]), ([("server", "a", G)], []),
                            ([("server", "a", flat(0)), ("server", "a", G)], []),
                            ([("server", "b", G), ("flow", "x", P, ("b",), 0), again], [("server", "b", G)]),
                            # Neither of the two can be left out alone.
                            ([("server", "b", G), ("close", "b")], [("server", "b", G), ("close", "b")]),
                            ([("limit", "x", 1), ("free", "x")], [("limit", "x", 1), ("free", "x")]),
                            # What can be left out at last could not be so at first.
                            ([gone, again], []), ([("limit", "x", 1), gone, again], []),
                            ([gone, again, ("limit", "x", 1)], [("limit", "x", 1)])):
            session = Session(net)
            for deed in deeds:
                session.do(deed)
            self.assertEqual(trimmed(session), left)

    def test_what_would_be_too_many_stays(self):
        # Without the greater speed ahead of it the flow is not told; in the end the flow is another one.
        session = Session(Net((("a", flat(0)),), ()))
        for deed in (("server", "a", line(0, 1, 60)), ("flow", "x", Curve([0] + [1] * 59, 59, 1), ("a",), 0),
                     ("flow", "x", flat(1), ("a",), 0)):
            session.do(deed)
        self.assertEqual(trimmed(session), plain_trimmed(session))

    def test_64_and_65_deeds(self):
        session = Session(Net((("a", G),), (("x", P, ("a",), 0),)))
        for number in range(64):
            session.do(("limit", "x", number))
        self.assertEqual(trimmed(session), [("limit", "x", 63)])
        session.do(("limit", "x", 7))
        self.too_many(64, trimmed, session)
        session.undo()
        self.assertEqual(trimmed(session), [("limit", "x", 63)])


if __name__ == "__main__":
    unittest.main()
