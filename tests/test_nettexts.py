"""[82], [83], [85]: texts of nets."""

import unittest

from worstwait.curves import Curve, flat, late, line
from worstwait.curvetexts import curve_text
from worstwait.errors import BadNet, BadText
from worstwait.examples import examples
from worstwait.joined import later, raised
from worstwait.netbounds import net_bounds
from worstwait.nets import Net
from worstwait.nettexts import net_of_text, net_text, tail_of_net_text
from tests.plain import Case, Lots
from tests.plaintexts import LETTERS, SIGNS, is_beginning, place_of_wrong
from tests.test_curvetexts import blanks, some_text
from tests.test_nets import NO_NETS, some_net

ONE = "net\nserver a gives[0]"
FLOW = "flow a keeps[0]rank0through "
Z = "z" * 12


def some_words(lots, many):
    words = {lots.of(LETTERS) * lots.of([1, 1, 2, 12]) + lots.of(["", "b", "server", "flow", "z"]) for _ in range(many)}
    return sorted({word[:12] for word in words})


def some_net_text(lots):
    """A text that no rule of nets alone makes wrong: paths may make rings, curves be above 0 at beat 0."""
    gap = blanks(lots)
    lines = [gap + "net" + gap]
    servers = some_words(lots, 1 + lots.below(4))
    for word in servers:
        lines.append(f"{gap}server {word} gives{gap or ' '}{some_text(lots, 1)[0]}{gap}")
    for word in some_words(lots, lots.below(4)):
        text = some_text(lots, 1)[0]
        behind = " " if text.endswith("none") else blanks(lots)
        path = [one for one in servers if lots.below(2)] or servers[:1]
        lines.append(f"flow {word} keeps {text}{behind}rank{gap}{lots.below(100)}{gap}through "
                     + lots.of([" ", "  "]).join(path) + gap)
    return "\n".join(lines)


class Nets(Case):
    def test_there_and_back(self):
        lots = Lots(571)
        for _ in range(100):
            net = some_net(lots)
            text = net_text(net)
            self.assertIs(type(text), str)
            lines = ["net"] + [f"server {word} gives {curve_text(curve)}" for word, curve in net.servers]
            lines += [f"flow {word} keeps {curve_text(promise)} rank {rank} through {' '.join(path)}"
                      for word, promise, path, rank in net.flows]
            self.assertEqual(text, "\n".join(lines))
            self.assertEqual(net_of_text(text), net)
            self.assertEqual(tail_of_net_text(text), "")

    def test_the_example(self):
        text = examples()[0]
        net = net_of_text(text)
        self.assertEqual(net, Net((("hub", late(1, 2, 1)), ("out", late(1, 3, 1))),
                                  (("x", Curve([0, 2], 1, 0), ("hub", "out"), 0), ("y", line(0, 1, 1), ("hub",), 1))))
        self.assertEqual(net_text(net), text)
        self.assertEqual(net_bounds(net), {"x": (2, (("hub", 1, 2), ("out", 1, 2))), "y": (2, (("hub", 2, 2),))})

    def test_loose_texts(self):
        for text, net in ((" net \n server server gives[0]", Net((("server", flat(0)),), ())),
                          ("net\nserver a gives line 0 1/1+[0]\nserver b gives flat 0 \n"
                           " flow flow keeps flat none rank99through b  a ",
                           Net((("a", line(0, 1, 1)), ("b", flat(0))), (("flow", flat(None), ("b", "a"), 99),))),
                          (f"net\nserver {Z} gives [0]\nflow {Z} keeps(([5]))rank 0 through {Z}",
                           Net(((Z, flat(0)),), ((Z, flat(5), (Z,), 0),)))):
            self.assertEqual(net_of_text(text), net)
            self.assertEqual(tail_of_net_text(text), "")

    def test_no_nets(self):
        for text, part in ((ONE + "\nserver b gives[1]", "servers"), ("net\nserver a gives flat none", "servers"),
                           (ONE + "\nserver b gives[0]\nflow p keeps[0]rank0through a b\n"
                            "flow q keeps[0]rank0through b a", "ring")):
            self.assertEqual(tail_of_net_text(text), "")
            self.refuses(BadNet, net_of_text, text, part=part)

    def test_too_many(self):
        text = "net\nserver a gives[9]\nflow p keeps {} rank 0 through a"
        self.too_many(4000, net_of_text, text.format("later([0 1],4000)"))
        self.too_many(400, net_of_text, text.format("close(later([0 1;1by1],400))"))
        wrong = text.format("later([0 1],4000)")
        self.refuses(BadText, net_of_text, wrong + "]", at=len(wrong))
        self.too_many(400, net_text, Net((("a", later(line(0, 1, 1), 400)),), ()))
        self.too_many(400, net_text, Net((("a", flat(0)),), (("p", raised(flat(10 ** 9), 1), ("a",), 0),)))

    def test_refuses(self):
        for thing in NO_NETS:
            self.refuses(BadNet, net_text, thing, part=None)
        for thing in (None, 0, b"net", ["net"], (), True):
            for call in (net_of_text, tail_of_net_text):
                self.refuses(BadText, call, thing, at=None)


class Places(Case):
    def test_by_hand(self):
        end = len(ONE)
        two = ONE + "\nserver zz gives[0]"
        path = ONE + "\nserver ab gives[0]\n" + FLOW
        for text, at, tail in (
                ("", 0, "net\nserver a gives[0]"), ("net", 3, "\nserver a gives[0]"), ("net\n", 4, "server a gives[0]"),
                ("net\n\n", 4, None), ("net server", 4, None), ("nets", 3, None), ("net\nflow", 4, None),
                ("net\nservera", 10, None), ("net\nserver ", 11, "a gives[0]"), ("net\nserver A", 11, None),
                ("net\nserver " + Z, 23, " gives[0]"), ("net\nserver z" + Z, 23, None), (ONE, None, ""),
                (ONE + "\n", end + 1, "server b gives[0]"), (ONE + "\nserver a", end + 9, "a gives[0]"),
                (ONE + "\nserver a ", end + 9, None), (ONE + "\nserver aa ", end + 11, "gives[0]"),
                (ONE + "\nf", end + 2, "low a keeps[0]rank0through a"), (ONE + "\nx", end + 1, None),
                (ONE + "+", end + 1, "[0]"), (ONE + " flow", end + 1, None), (ONE + "\r", end, None),
                (two + "\n", len(two) + 1, "server zza gives[0]"), (two + "\nserver z", len(two) + 9, "za gives[0]"),
                (two + "\nserver y", len(two) + 8, None), (two + "\nserver zy", len(two) + 9, None),
                (two + "\nserver zzza ", len(two) + 13, "gives[0]"), (two + "\nserver zz ", len(two) + 10, None),
                (path, len(path), "a"), (path + "a", None, ""), (path + "ab", None, ""), (path + "abc", len(path) + 2, None),
                (path + "b", len(path), None), (path + "a ", None, ""), (path + "a a", len(path) + 3, "b"),
                (path + "a a ", len(path) + 3, None), (path + "ab a", None, ""), (path + "ab ab", len(path) + 4, None),
                (path + "a ab a", len(path) + 5, None), (path + "a\n", len(path) + 2, "flow b keeps[0]rank0through a"),
                (path + "a\nserver", len(path) + 2, None), (path + "a\nflow a", len(path) + 8, "a keeps[0]rank0through a"),
                (path + "zz", len(path), None), (path[:-9] + "00", len(path) - 8, None),
                (path[:-9] + "100", len(path) - 7, None), (path[:-9] + " 99", len(path) - 6, "through a"),
                (path + "1", len(path), None), (path + "a,", len(path) + 1, None)):
            self.assertEqual(tail_of_net_text(text), tail, text)
            if at is None:
                net_of_text(text)
            else:
                self.refuses(BadText, net_of_text, text, at=at)

    def test_8_and_9_servers_and_flows(self):
        text = "net" + "".join(f"\nserver {letter} gives[0]" for letter in "abcdefgh")
        self.assertEqual(tail_of_net_text(text + "\n"), "flow a keeps[0]rank0through a")
        self.assertEqual(tail_of_net_text(text[:-17]), "server h gives[0]")
        self.refuses(BadText, net_of_text, text + "\nserver i gives[0]", at=len(text) + 1)
        for letter in "abcdefgh":
            text += f"\nflow {letter} keeps[0]rank0through a"
        self.assertEqual((len(net_of_text(text).servers), len(net_of_text(text).flows)), (8, 8))
        self.assertIsNone(tail_of_net_text(text + "\n"))
        self.refuses(BadText, net_of_text, text + "\nflow i keeps[0]rank0through a", at=len(text))
        self.assertEqual(tail_of_net_text(text + " b c d e f "), "")
        self.assertIsNone(tail_of_net_text(text + " b c d e f g"))
        self.refuses(BadText, net_of_text, text + " b c d e f g", at=len(text) + 11)

    def test_above_the_last_word(self):
        last = f"net\nserver {Z} gives[0]"
        self.assertEqual(tail_of_net_text(last + "\n"), f"flow a keeps[0]rank0through {Z}")
        self.assertIsNone(tail_of_net_text(last + "\ns"))
        flow = last + f"\nflow {Z} keeps[0]rank0through {Z}"
        self.assertEqual(tail_of_net_text(flow), "")
        self.assertIsNone(tail_of_net_text(flow + "\n"))
        self.refuses(BadText, net_of_text, flow + "\nflow a", at=len(flow))
        for word, part, tail in (("y" * 12, "", "z"), ("zzy", "", "zzz"), ("zzz", "", "zzza"), ("azz", "a", "azza"),
                                 ("az", "", "b"), ("z" * 11 + "y", "", Z), ("z" * 11, "", "z" * 11 + "a"),
                                 ("b" + Z[:11], "b", None), ("bz", "b", "bza"), ("by", "b", "bz"), ("by", "bz", "bz")):
            text = f"net\nserver {word} gives[0]\nserver {part}"
            wanted = None if tail is None else tail[len(part):] + (" " if tail == part else " ") + "gives[0]"
            self.assertEqual(tail_of_net_text(text), wanted)

    def test_each_expression_by_itself(self):
        twenty = "+".join(["[0]"] * 20)
        text = f"net\nserver a gives {twenty}\nserver b gives {twenty}\nflow a keeps {twenty}rank0through a b"
        self.assertEqual(net_of_text(text), Net((("a", flat(0)), ("b", flat(0))), (("a", flat(0), ("a", "b"), 0),)))
        self.refuses(BadText, net_of_text, text.replace("rank", "+[0]rank"), at=text.index("rank"))

    def test_each_beginning(self):
        lots = Lots(572)
        for _ in range(15):
            text = some_net_text(lots)
            self.assertIsNone(place_of_wrong(text, "net"), text)
            for many in range(len(text) + 1):
                tail = tail_of_net_text(text[:many])
                self.assertIsNone(place_of_wrong(text[:many] + tail, "net"))
                self.assertLessEqual((len(tail), tail), (len(text) - many, text[many:]))

    def test_places(self):
        lots = Lots(573)
        seen = 0
        for _ in range(400):
            text = some_net_text(lots)
            place = lots.below(len(text) + 1)
            text = lots.of([text[:place] + lots.of(SIGNS) + text[place:], text[:place] + text[place + 1:],
                            text[:place] + lots.of(SIGNS) + text[place + 1:]])
            at = place_of_wrong(text, "net")
            self.assertIs(tail_of_net_text(text) is None, at is not None and at < len(text), text)
            if at is not None:
                seen += 1
                self.refuses(BadText, net_of_text, text, at=at)
        self.assertGreater(seen, 200)

    def test_tails_step_by_step(self):
        lots = Lots(574)
        for _ in range(12):
            text = some_net_text(lots)
            part = text[:lots.below(len(text) + 1)]
            tail = tail_of_net_text(part)
            while tail:
                steps = [sign + tail_of_net_text(part + sign) for sign in SIGNS if is_beginning(part + sign, "net")]
                self.assertEqual(min(steps, key=lambda one: (len(one), one)), tail)
                part, tail = part + tail[0], tail[1:]
                self.assertEqual(tail_of_net_text(part), tail)


if __name__ == "__main__":
    unittest.main()
