"""[95]: sessions."""

import unittest

from worstwait.changes import unlike_bounds
from worstwait.curves import Curve, flat, late, line
from worstwait.errors import BadDeed, BadNet, BadNumber, NotLet, TooMany
from worstwait.joined import later
from worstwait.limits import broken_limits
from worstwait.netbounds import net_bounds
from worstwait.nets import Net
from worstwait.sessions import Session, is_deed
from tests.plain import NO_NUMBERS, Case, Lots
from tests.test_changes import NO_CHANGES, plain_changed, some_change
from tests.test_netbounds import small_net
from tests.test_nets import G, NO_NETS, P
from tests.test_closures import two_parts

NO_DEEDS = tuple(one for one in NO_CHANGES if one != ("limit", "x", 1)) + (
    ("limit", "x"), ("limit", "x", -1), ("limit", "x", 10 ** 6 + 1), ("limit", "x", True), ("limit", "x", None),
    ("limit", "x", 1, 1), ("limit", "X", 1), ("limit", 1, 1), ["limit", "x", 1], ("free",), ("free", "x", 1),
    ("free", ""), ("free", None), ("Free", "x"), ("undo",), ("limit", "x", 1.0))


def some_deed(lots, net):
    words = [flow[0] for flow in net.flows] + ["new"]
    kind = lots.below(5)
    if kind == 0:
        return "limit", lots.of(words), lots.below(5)
    return ("free", lots.of(words)) if kind == 1 else some_change(lots, net)


class PlainSession:
    """All present deeds and undone ones, looked at from the first net on each time."""

    def __init__(self, net):
        self.first, self.deeds, self.undone = net, [], []

    def state(self, deeds):
        net, limits = self.first, {}
        for deed in deeds:
            told = self.behind(net, limits, deed)
            net, limits = told
        return net, limits

    @staticmethod
    def behind(net, limits, deed):
        """Net and limits behind a deed, or why it is not let."""
        limits = dict(limits)
        if deed[0] == "limit":
            if deed[1] not in [flow[0] for flow in net.flows]:
                return "word"
            limits[deed[1]] = deed[2]
            return net, limits
        if deed[0] == "free":
            return "word" if limits.pop(deed[1], None) is None else (net, limits)
        told = plain_changed(net, deed)
        if isinstance(told, str):
            return told
        return told, {word: most for word, most in limits.items() if deed != ("gone", word)}

    def do(self, deed):
        told = self.behind(*self.state(self.deeds), deed)
        if not isinstance(told, str):
            self.deeds, self.undone = self.deeds + [deed], []
        return told


class Sessions(Case):
    def test_deeds_done_and_undone(self):
        lots = Lots(681)
        seen = {}
        for _ in range(40):
            net = small_net(lots, 3)
            session, plain = Session(net), PlainSession(net)
            for _ in range(14):
                kind = lots.below(6)
                if kind == 0:
                    self.step(session.undo, plain, plain.deeds, plain.undone, "undo")
                elif kind == 1:
                    self.step(session.redo, plain, plain.undone, plain.deeds, "redo")
                else:
                    deed = some_deed(lots, session.net)
                    before = self.told(session)
                    told = plain.behind(*plain.state(plain.deeds), deed)
                    if isinstance(told, str):
                        self.refuses(NotLet, session.what_if, deed, why=told)
                        self.refuses(NotLet, session.do, deed, why=told)
                        self.assertEqual(self.told(session), before)
                        seen[told] = seen.get(told, 0) + 1
                    else:
                        guess = session.what_if(deed)
                        self.assertEqual(self.told(session), before)
                        self.assertEqual(guess, (unlike_bounds(session.net, told[0]), broken_limits(*told)))
                        self.assertIs(type(guess), tuple)
                        self.assertIsNone(session.do(deed))
                        self.assertEqual(session.broken(), guess[1])
                        plain.do(deed)
                        seen[deed[0]] = seen.get(deed[0], 0) + 1
                self.same_session(session, plain)
        self.assertLessEqual({"close", "flow", "free", "gone", "limit", "ring", "server", "used", "word"}, set(seen))

    def step(self, call, plain, source, target, why):
        if not source:
            self.refuses(NotLet, call, why=why)
        else:
            self.assertIsNone(call())
            target.append(source.pop())

    def told(self, session):
        return (session.first, session.net, session.deeds(), session.undone(), session.limits(), session.bounds(),
                session.broken())

    def same_session(self, session, plain):
        net, limits = plain.state(plain.deeds)
        self.assertEqual(session.first, plain.first)
        self.assertEqual(session.net, net)
        self.assertEqual(session.bounds(), net_bounds(net))
        self.assertEqual(list(session.limits().items()), sorted(limits.items()))
        self.assertEqual(session.broken(), broken_limits(net, limits))
        self.assertEqual(session.deeds(), plain.deeds)
        self.assertEqual(session.undone(), plain.undone[::-1])
        for number in range(len(plain.deeds) + 1):
            ahead = plain.state(plain.deeds[:number])[0]
            self.assertEqual(session.since(number), unlike_bounds(ahead, net))
        again = Session(plain.first)
        for deed in plain.deeds:
            again.do(deed)
        self.assertIs(session == again, not plain.undone)
        self.assertEqual([again.net, again.limits(), again.bounds()], [session.net, session.limits(), session.bounds()])

    def test_a_flow_that_goes_and_comes_again(self):
        session = Session(Net((("a", G),), (("x", P, ("a",), 0),)))
        session.do(("limit", "x", 3))
        session.do(("flow", "x", flat(1), ("a",), 2))
        self.assertEqual(session.limits(), {"x": 3})
        session.do(("gone", "x"))
        self.assertEqual(session.limits(), {})
        session.do(("flow", "x", P, ("a",), 0))
        self.assertEqual(session.limits(), {})
        self.refuses(NotLet, session.do, ("free", "x"), why="word")
        session.do(("limit", "x", 5))
        session.do(("limit", "x", 4))
        self.assertEqual(session.limits(), {"x": 4})
        session.undo()
        self.assertEqual(session.limits(), {"x": 5})
        for _ in range(3):
            session.undo()
        self.assertEqual((session.limits(), session.net), ({"x": 3}, Net((("a", G),), (("x", flat(1), ("a",), 2),))))

    def test_undo_and_redo(self):
        session = Session(Net((("a", G),), ()))
        self.refuses(NotLet, session.undo, why="undo")
        self.refuses(NotLet, session.redo, why="redo")
        one, two = ("server", "b", G), ("close", "a")
        session.do(one)
        session.do(two)
        session.undo()
        session.undo()
        self.assertEqual((session.deeds(), session.undone()), ([], [one, two]))
        session.redo()
        self.assertEqual((session.deeds(), session.undone()), ([one], [two]))
        # What is refused drops nothing; what is done drops all that was undone.
        self.refuses(NotLet, session.do, ("close", "z"), why="word")
        self.assertEqual(session.undone(), [two])
        session.do(("close", "b"))
        self.assertEqual((session.deeds(), session.undone()), ([one, ("close", "b")], []))
        self.refuses(NotLet, session.redo, why="redo")

    def test_equal(self):
        net, other = Net((("a", G),), ()), Net((("a", flat(0)),), ())
        one, two = Session(net), Session(net)
        self.assertEqual(one, two)
        self.assertNotEqual(one, Session(other))
        self.assertFalse(one == net)
        one.do(("server", "a", flat(0)))
        self.assertNotEqual(one, two)
        self.assertNotEqual(one, Session(other))
        two.do(("server", "a", flat(0)))
        self.assertEqual(one, two)
        one.undo()
        two.undo()
        self.assertEqual(one, two)
        self.assertNotEqual(one, Session(net))
        one.redo()
        self.assertNotEqual(one, two)

    def test_too_many_changes_nothing(self):
        good = ("flow", "x", flat(1), ("a",), 0)
        session = Session(Net((("a", line(0, 9, 1)),), ()))
        session.do(good)
        session.do(("limit", "x", 3))
        session.undo()
        for deed, most in ((("flow", "y", later(flat(1), 400), ("a",), 1), 400),
                           (("flow", "x", two_parts(64, 10), ("a",), 1), 4000)):
            before = self.told(session)
            self.too_many(most, session.do, deed)
            self.too_many(most, session.what_if, deed)
            self.assertEqual(self.told(session), before)
        self.assertEqual(session.undone(), [("limit", "x", 3)])
        self.assertRaises(TooMany, Session, Net((("a", G),), (("y", later(flat(1), 400), ("a",), 1),)))

    def test_what_is_told_is_new(self):
        session = Session(Net((("a", G),), (("x", P, ("a",), 0),)))
        session.do(("limit", "x", 1))
        session.undo()
        session.do(("limit", "x", 2))
        for told in (session.bounds(), session.limits(), session.broken(), session.deeds(), session.undone()):
            told.clear()
        self.assertEqual((session.limits(), session.deeds()), ({"x": 2}, [("limit", "x", 2)]))
        self.assertEqual(list(session.bounds()), ["x"])

    def test_is_deed(self):
        for thing in (("limit", "x", 0), ("limit", "x" * 12, 10 ** 6), ("free", "x"), ("server", "a", G), ("close", "a"),
                      ("flow", "x", P, ("b", "a"), 99), ("gone", "x")):
            self.assertIs(is_deed(thing), True)
        for thing in NO_DEEDS:
            self.assertIs(is_deed(thing), False)

    def test_refuses(self):
        for thing in NO_NETS:
            self.refuses(BadNet, Session, thing, part=None)
        session = Session(Net((("a", late(1, 2, 1)),), (("x", Curve([0, 1], 1, 0), ("a",), 0),)))
        for thing in NO_DEEDS:
            self.refuses(BadDeed, session.do, thing)
            self.refuses(BadDeed, session.what_if, thing)
        session.do(("limit", "x", 1))
        for wrong in NO_NUMBERS + (-1, 2):
            self.refuses(BadNumber, session.since, wrong, part="number")
        for deed in (("limit", "y", 1), ("free", "y"), ("limit", "a", 1)):
            self.refuses(NotLet, session.do, deed, why="word")


if __name__ == "__main__":
    unittest.main()
