"""[97]: the desk."""

import unittest

from worstwait.changes import unlike_bounds
from worstwait.curves import flat, late, line
from worstwait.curvetexts import curve_text
from worstwait.desk import Desk
from worstwait.errors import BadNet, NotLet, TooMany
from worstwait.examples import examples
from worstwait.joined import later
from worstwait.journals import deed_text, journal
from worstwait.limits import burst_room, fewest_gone, least_speed
from worstwait.nets import Net
from worstwait.nettexts import net_of_text
from worstwait.sessions import Session
from tests.plain import Case, Lots
from tests.test_closures import two_parts
from tests.test_netbounds import small_net
from tests.test_nets import G, NO_NETS
from tests.test_sessions import some_deed


def value(number):
    return "none" if number is None else f"{number}"


def unlike(before, behind):
    told = []
    for flow, server, one, two in unlike_bounds(before, behind):
        sides = ["no" if side is None else " ".join(map(value, side)) for side in (one, two)]
        told.append(" ".join([flow] + ([server] if server else [])) + f" {sides[0]} > {sides[1]}")
    return told


def state(desk):
    session = desk.session
    return session.net, session.deeds(), session.undone(), session.limits()


class Desks(Case):
    def test_deeds(self):
        lots = Lots(701)
        seen = {}
        for _ in range(40):
            net = small_net(lots, 3)
            desk, other = Desk(net), Session(net)
            self.assertEqual(desk.session, other)
            for _ in range(12):
                deed, before, was = some_deed(lots, other.net), other.net, state(desk)
                line_said = lots.of([deed_text(deed), deed_text(deed), deed_text(deed), "undo", "redo"])
                if line_said not in ("undo", "redo"):
                    guess = desk.say("if " + line_said)
                    self.assertEqual(state(desk), was)
                try:
                    if line_said == "undo":
                        other.undo()
                    elif line_said == "redo":
                        other.redo()
                    else:
                        other.do(deed)
                    wanted = tuple(unlike(before, other.net)) or ("nothing",)
                except NotLet as error:
                    wanted = ("cannot " + error.why,)
                told = desk.say(line_said)
                self.assertEqual(told, wanted)
                self.assertTrue(type(told) is tuple and all(type(one) is str for one in told))
                if line_said not in ("undo", "redo"):
                    self.assertEqual(guess, told)
                self.assertEqual(desk.session, other)
                seen[told[0][:6]] = True
                self.asks(desk, lots)
        self.assertLessEqual({"cannot", "nothin"}, set(seen))

    def asks(self, desk, lots):
        session, was = desk.session, state(desk)
        bounds = [" ".join([word, value(whole)] + [part for row in rows for part in (row[0], value(row[1]), value(row[2]))])
                  for word, (whole, rows) in session.bounds().items()]
        flow = lots.of([one[0] for one in session.net.flows] + ["zz"])
        server, number = lots.of([one[0] for one in session.net.servers]), lots.below(5)
        room = ("what",)
        if flow != "zz":
            room = (value(burst_room(session.net, session.limits(), flow, number)),)
        for line_said, wanted in (
                ("bounds", bounds), ("limits", [f"{word} {most}" for word, most in session.limits().items()]),
                ("broken", session.broken()), ("journal", journal(session)),
                ("go", fewest_gone(session.net, session.limits())), (f"room {flow} {number}", room),
                (f"speed {server} {number}", [value(least_speed(session.net, session.limits(), server, number))])):
            self.assertEqual(desk.say(line_said), tuple(wanted) or ("nothing",))
        self.assertEqual(state(desk), was)

    def test_by_hand(self):
        desk = Desk(net_of_text(examples()[0]))
        for line_said, told in (
                ("bounds", ("x 2 hub 1 2 out 1 2", "y 2 hub 2 2")), ("limits", ("nothing",)), ("journal", ("nothing",)),
                ("limit y 1", ("nothing",)), ("limit x 5", ("nothing",)), ("limits", ("x 5", "y 1")), ("broken", ("y",)),
                ("go", ("x",)), ("room x 200", ("none",)), ("room y 0", ("none",)), ("speed hub 200", ("2",)),
                ("if gone y", ("y 2 > no", "y hub 2 2 > no")), ("free y", ("nothing",)), ("go", ("nothing",)),
                ("gone x", ("x 2 > no", "x hub 1 2 > no", "x out 1 2 > no", "y 2 > 1", "y hub 2 2 > 1 1")),
                ("limits", ("nothing",)), ("undo", ("x no > 2", "x hub no > 1 2", "x out no > 1 2", "y 1 > 2",
                                                   "y hub 1 1 > 2 2")), ("limits", ("x 5",)),
                ("server hub gives [0]", ("x 2 > none", "x hub 1 2 > none 2", "y 2 > none", "y hub 2 2 > none none")),
                ("undo", ("x none > 2", "x hub none 2 > 1 2", "y none > 2", "y hub none none > 2 2")),
                ("journal", ("limit y 1", "limit x 5", "free y")), ("redo", ("x 2 > none", "x hub 1 2 > none 2",
                                                                          "y 2 > none", "y hub 2 2 > none none")),
                ("redo", ("cannot redo",)), ("close hub", ("cannot used",)), ("close zz", ("cannot word",)),
                ("flow z keeps [0 1] rank 3 through out hub", ("cannot ring",)), ("broken", ("x",))):
            self.assertEqual(desk.say(line_said), told, line_said)

    def test_what(self):
        desk = Desk(net_of_text(examples()[0]))
        desk.say("limit x 1")
        desk.say("limit x 2")
        desk.say("undo")
        was = state(desk)
        for line_said in (None, 3, True, b"bounds", ["bounds"], ("bounds",), "", " ", "what", "bounds ", " bounds", "Bounds",
                          "bound", "bounds x", "undo ", "undo 1", " undo", "redo\n", "limits x", "broken.", "journal 1", "go x",
                          "go ", "if", "if ", "if undo", "if bounds", "if  gone x", " if gone x", "if if gone x", "if gone x ",
                          "gone  x", "gone x ", "gone", "limit x 01", "limit x 1000001", "room", "room x", "room x ", "room x 1 ",
                          "room  x 1", "room x  1", "room x 01", "room x 201", "room x 1000", "room x -1", "room x 1.0",
                          "room x y", "room z 1", "room hub 1", "room X 1", "room x 1 1", "room x \u0661", "speed", "speed x 1",
                          "speed hub", "speed hub 00", "speed hub 201", "speed  hub 1", "speed hub 1\n", "speed zz 1",
                          "server hub gives late 1 2/1", "server hub gives [1]", "if server hub gives flat 0",
                          "flow z keeps [1] rank 100 through hub"):
            self.assertEqual(desk.say(line_said), ("what",), line_said)
            self.assertEqual(state(desk), was)

    def test_too_many(self):
        desk = Desk(Net((("a", line(0, 9, 1)),), (("x", flat(1), ("a",), 0),)))
        desk.say("limit x 3")
        desk.say("undo")
        was = state(desk)
        text = f"flow y keeps {curve_text(two_parts(64, 10))} rank 1 through a"
        for line_said in (text, "if " + text):
            self.assertEqual(desk.say(line_said), ("too many",))
            self.assertEqual(state(desk), was)
        desk = Desk(Net((("a", G),), ()))
        desk.session.do(("server", "b", later(line(0, 1, 1), 500)))
        self.assertEqual(desk.say("journal"), ("too many",))
        self.assertRaises(TooMany, Desk, Net((("a", G),), (("y", later(flat(1), 400), ("a",), 1),)))

    def test_room_and_speed_up_to_200(self):
        desk = Desk(Net((("s", late(1, 2, 1)),), (("x", line(2, 0, 1), ("s",), 0), ("y", line(0, 1, 1), ("s",), 1))))
        for line_said, told in (("room y 200", "200"), ("room x 0", "0"), ("speed s 0", "0"), ("limit x 1", "nothing"),
                                ("room x 200", "0"), ("room y 200", "200"), ("speed s 0", "none"), ("speed s 200", "1")):
            self.assertEqual(desk.say(line_said), (told,))

    def test_refuses(self):
        for thing in NO_NETS:
            self.refuses(BadNet, Desk, thing, part=None)
        self.assertEqual(Desk(net=Net((("a", G),), ())).say(line="bounds"), ("nothing",))


if __name__ == "__main__":
    unittest.main()
