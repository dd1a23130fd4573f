"""[80], [81], [83], [85]: texts of curves."""

import unittest

from worstwait.closures import closure
from worstwait.curves import Curve, flat, late, line
from worstwait.curvetexts import curve_of_text, curve_text, tail_of_curve_text
from worstwait.errors import BadCurve, BadText, TooMany
from worstwait.foldings import folding
from worstwait.joined import later, least_of, most_of, raised, sooner, sum_of, times
from worstwait.unfoldings import unfolding
from tests.plain import Case, Lots, long_curve, numbers, some_curve
from tests.plaintexts import SIGNS, is_beginning, place_of_wrong, plain_tail

BIG = 10 ** 9


def some_value(lots):
    return lots.of(["none", "0", "1", "7", "13", str(BIG), str(lots.below(BIG))])


def blanks(lots):
    return lots.of(["", "", "", " ", "  "])


def some_row(lots):
    curve = some_curve(lots, 6, 12)
    told = ["none" if one is None else str(one) for one in curve.start]
    row = "[" + " ".join(told)
    if curve.start[-1] is None or lots.below(3) == 0:
        return row + blanks(lots) + "]"
    return row + blanks(lots) + ";" + blanks(lots) + f"{curve.period}{blanks(lots)}by{blanks(lots)}{curve.growth}]"


def some_text(lots, depth=2):
    """A text of a curve: pairs of it and of the curve that the works of parts 1 and 2 tell of it."""
    kind = lots.below(12 if depth else 5)
    gap = blanks(lots)
    if kind == 0:
        value = some_value(lots)
        return f"flat {value}", flat(None if value == "none" else int(value))
    if kind in (1, 2):
        first, steps, beats = lots.below(300), lots.below(50), 1 + lots.below(9)
        word, call = (("line", line), ("late", late))[kind - 1]
        return f"{word}{gap}{first} {steps}{gap}/{gap}{beats}", call(first, steps, beats)
    if kind in (3, 4):
        text = some_row(lots)
        values = text[1:-1].partition(";")[0].replace("none", " none").split()
        row = [None if one == "none" else int(one) for one in values]
        told = text[1:-1].partition(";")[2].replace("by", " ").split() or ["1", "0"]
        return text, Curve(row, int(told[0]), int(told[1]))
    one, mine = some_text(lots, depth - 1)
    if kind in (5, 6, 7):
        two, its = some_text(lots, depth - 1)
        if kind == 5:
            return f"{one}{gap}+{gap}{two}", (mine, its, sum_of)
        word, call = lots.of([("least", least_of), ("most", most_of), ("fold", folding), ("unfold", unfolding)])
        return f"{word}{gap}({one}{gap},{gap}{two})", (mine, its, call)
    if kind == 8:
        return f"close{gap}({gap}{one})", (mine, closure)
    if kind == 9:
        return f"({gap}{one}{gap})", mine
    word, call = lots.of([("later", later), ("sooner", sooner), ("raised", raised), ("times", times)])
    number = lots.below(30)
    return f"{word}({one},{gap}{number}{gap})", (mine, number, call)


def work(plan):
    """The curve of a plan, its parts worked out ahead, the first one first."""
    if not isinstance(plan, tuple):
        return plan
    return plan[-1](*[work(one) for one in plan[:-1]])


class Curves(Case):
    def test_what_texts_tell(self):
        lots = Lots(401)
        for _ in range(200):
            text, plan = some_text(lots)
            if "+" in text:
                continue
            self.assertIsNone(place_of_wrong(text, "curve"))
            self.assertEqual(tail_of_curve_text(text), "")
            try:
                wanted = work(plan)
            except TooMany as error:
                self.too_many(error.most, curve_of_text, text)
            else:
                self.assertEqual(curve_of_text(text), wanted)

    def test_sums_from_the_left(self):
        for text, curve in (("[1]+[2]+flat none", flat(None)), ("[1] + late 1 2/1+ (flat 3)", raised(late(1, 2, 1), 4)),
                            ("later([1]+[2],3)", later(flat(3), 3)), ("[5]+times([1],2)", flat(7)),
                            ("least([1]+[9],[3]+[4])", flat(7)), ("(([0 1]))+[0;1by1]", line(1, 1, 1)),
                            (" [ 0 ] ", flat(0)), ("flat0", flat(0)), ("[0none]", Curve([0, None], 1, 0)),
                            ("line0 1/1+line1 0/7", line(1, 1, 1))):
            self.assertEqual(curve_of_text(text), curve)

    def test_by_hand(self):
        for text, at, tail in (("", 0, "[0]"), ("[5 3", 4, "0]"), ("[5 3]", 4, None), ("[0 9;2by8", 9, "0]"),
                               ("late 301", 7, None), ("late 30", 7, " 0/1"), ("late 300 1/60", None, ""),
                               ("flatnone", 4, None), ("flat none", None, ""), ("line1 05/1", 7, None),
                               ("[1 1 none", 9, "]"), ("[1 1 none;", 9, None), ("[none 1", 6, None), ("l", 1, "ate0 0/1"),
                               ("le", 2, "ast([0],[0])"), ("late", 4, "0 0/1"), ("lates", 4, None), ("later", 5, "([0],0)"),
                               ("c", 1, "lose([0])"), ("m", 1, "ost([0],[0])"), ("s", 1, "ooner([0],0)"),
                               ("u", 1, "nfold([0],[0])"), ("f", 1, "lat0"), ("fo", 2, "ld([0],[0])"), ("x", 0, None),
                               ("[0] [", 4, None), ("[0]+", 4, "[0]"), ("(", 1, "[0])"), ("()", 1, None),
                               ("later([0],4001", 13, None), ("later([0],400", 13, ")"), ("[0;2", 3, None),
                               ("[0;1by", 6, "0]"), ("[0 5;2", 6, "by5]"), ("[0 5;", 5, "1by0]"), ("[0 12;2by", 9, "12]"),
                               ("[0 12;2by1", 10, "2]"), ("flat 1000000001", 14, None), ("flat 10000000000", 15, None),
                               ("line 1 1/0", 9, None), ("line 1 1/61", 10, None), ("line 1 1", 8, "/1"),
                               ("line 1\t1/1", 6, None), ("[0]\n", 3, None), ("\u00e4", 0, None), ("[0]A", 3, None)):
            self.assertEqual(tail_of_curve_text(text), tail, text)
            if at is None:
                curve_of_text(text)
            else:
                self.refuses(BadText, curve_of_text, text, at=at)

    def test_each_beginning(self):
        lots = Lots(402)
        for _ in range(60):
            text, _ = some_text(lots)
            for many in range(len(text) + 1):
                part = text[:many]
                tail = tail_of_curve_text(part)
                self.assertIsNone(place_of_wrong(part + tail, "curve"))
                self.assertLessEqual((len(tail), tail), (len(text) - many, text[many:]))

    def test_places(self):
        lots = Lots(403)
        seen = 0
        for _ in range(500):
            text, _ = some_text(lots)
            place = lots.below(len(text) + 1)
            text = lots.of([text[:place] + lots.of(SIGNS) + text[place:], text[:place] + text[place + 1:],
                            text[:place] + lots.of(SIGNS) + text[place + 1:]])
            at = place_of_wrong(text, "curve")
            if at is None:
                self.assertEqual(tail_of_curve_text(text), "")
                continue
            seen += 1
            self.refuses(BadText, curve_of_text, text, at=at)
            tail = tail_of_curve_text(text)
            self.assertIs(tail is None, at < len(text))
            if at < len(text):
                self.assertIsNotNone(tail_of_curve_text(text[:at]))
                self.assertIsNone(tail_of_curve_text(text[:at + 1]))
        self.assertGreater(seen, 200)

    def test_shortest_tails(self):
        lots = Lots(404)
        for _ in range(25):
            text, _ = some_text(lots, 1)
            part = text[:lots.below(len(text) + 1)]
            wanted = plain_tail(part, "curve", 2)
            if wanted != "too long":
                self.assertEqual(tail_of_curve_text(part), wanted)

    def test_tails_step_by_step(self):
        """A tail is the least of all signs that may come next, each with its own tail behind it."""
        lots = Lots(405)
        for _ in range(60):
            text, _ = some_text(lots)
            part = text[:lots.below(len(text) + 1)]
            tail = tail_of_curve_text(part)
            while tail:
                steps = [sign + tail_of_curve_text(part + sign) for sign in SIGNS if is_beginning(part + sign, "curve")]
                for sign in SIGNS:
                    if not is_beginning(part + sign, "curve"):
                        self.assertIsNone(tail_of_curve_text(part + sign))
                self.assertEqual(min(steps, key=lambda one: (len(one), one)), tail)
                part, tail = part + tail[0], tail[1:]
                self.assertEqual(tail_of_curve_text(part), tail)
            self.assertIsNone(place_of_wrong(part, "curve"))

    def test_too_many(self):
        for text, most in (("later([0 1],4000)", 4000), ("close(later([0 1;1by1],400))", 400),
                           ("raised([0],1)+later([0 1],4000)+close(later([0 1;1by1],400))", 4000),
                           ("close(later([0 1;1by1],400))+later([0 1],4000)", 400),
                           ("fold(later([0 1],4000),close(later([0 1;1by1],400)))", 4000),
                           ("close([0 1 1000000000])", 4000)):
            self.too_many(most, curve_of_text, text)
            self.refuses(BadText, curve_of_text, text + "]", at=len(text))
            self.assertEqual(tail_of_curve_text(text), "")


class Bounds(Case):
    def test_12_and_13_brackets(self):
        for word, rest in (("", ""), ("close", ""), ("later", ",0"), ("least", ",[0]")):
            text = (word + "(") * 12 + "[0]" + (rest + ")") * 12
            if word == "least":
                self.assertEqual(curve_of_text(text), flat(0))
                self.assertEqual(tail_of_curve_text(text[:-1]), ")")
            else:
                curve_of_text(text)
            self.assertEqual(tail_of_curve_text((word + "(") * 12), "[0]" + (rest + ")") * 12)
            if word:
                self.assertIsNone(tail_of_curve_text((word + "(") * 13))
        deep = "(" * 12
        self.refuses(BadText, curve_of_text, deep + "([0])" + ")" * 12, at=12)
        for word, at in (("close(", 12), ("least(", 13), ("later(", 16), ("fold(", 13), ("sooner(", 12), ("most(", 12),
                         ("raised(", 12), ("times(", 12), ("unfold(", 12), ("[0", 14), ("flat", 16), ("line", 16)):
            self.refuses(BadText, curve_of_text, deep + word, at=at)
        # Closed ones do not count.
        self.assertEqual(curve_of_text(deep + "[0]" + ")" * 12 + "+(" + "(" * 11 + "[1]" + ")" * 12), flat(1))
        self.assertEqual(tail_of_curve_text(deep + "l"), "ate0 0/1" + ")" * 12)
        self.assertEqual(tail_of_curve_text("(" * 11 + "c"), "lose([0])" + ")" * 11)

    def test_20_and_21_pieces(self):
        for piece in ("[1]", "flat 1", "line0 1/1", "late0 1/1"):
            text = "+".join([piece] * 20)
            curve_of_text(text)
            self.assertEqual(tail_of_curve_text(text), "")
            self.refuses(BadText, curve_of_text, text + "+" + piece, at=len(text))
        nineteen = "+".join(["[0]"] * 19) + "+"
        self.assertEqual(tail_of_curve_text(nineteen), "[0]")
        self.refuses(BadText, curve_of_text, nineteen + "least([0],[0])", at=len(nineteen) + 1)
        self.refuses(BadText, curve_of_text, nineteen + "m", at=len(nineteen))
        self.assertEqual(curve_of_text(nineteen + "later([0],1)"), flat(0))
        eighteen = nineteen[:-4]
        self.assertEqual(curve_of_text(eighteen + "least([0],[0])"), flat(0))
        self.refuses(BadText, curve_of_text, eighteen + "least([0]+", at=len(eighteen) + 9)
        self.refuses(BadText, curve_of_text, eighteen + "least([0],[0])+", at=len(eighteen) + 14)
        self.refuses(BadText, curve_of_text, eighteen + "fold(l", at=len(eighteen) + 6)
        self.refuses(BadText, curve_of_text, eighteen + "fold(fo", at=len(eighteen) + 5 + 1)
        deep = "least(" * 12 + "[0]" + ",[0])" * 12
        self.assertEqual(curve_of_text(deep + "+[0]" * 7), flat(0))
        self.refuses(BadText, curve_of_text, deep + "+[0]" * 8, at=len(deep) + 28)
        self.refuses(BadText, curve_of_text, "least(" * 12 + "[0]+" * 8, at=72 + 31)

    def test_400_and_401_values(self):
        row = "[" + " ".join(["7"] * 400)
        self.assertEqual(curve_of_text(row + "]"), flat(7))
        self.assertEqual(tail_of_curve_text(row), "]")
        self.refuses(BadText, curve_of_text, row + " 7]", at=len(row) + 1)
        self.refuses(BadText, curve_of_text, row + " none]", at=len(row) + 1)
        self.assertEqual(curve_of_text(row[:-1] + "none]").start, (7,) * 399 + (None,))
        self.assertEqual(curve_of_text(row + ";60by0]"), flat(7))
        self.refuses(BadText, curve_of_text, row + ";61by0]", at=len(row) + 2)

    def test_numbers_of_a_billion_and_one_more(self):
        for ahead, rest in (("flat ", ""), ("line ", " 0/1"), ("line 0 ", "/1"), ("late 0 ", "/1"), ("[", "]"),
                            ("[0;1by", "]"), ("raised([0],", ")"), ("times([0],", ")")):
            curve_of_text(ahead + str(BIG) + rest)
            self.refuses(BadText, curve_of_text, ahead + str(BIG + 1) + rest, at=len(ahead) + 9)
            self.refuses(BadText, curve_of_text, ahead + "0" + str(BIG) + rest, at=len(ahead) + 1)
            self.refuses(BadText, curve_of_text, ahead + "9" * 5000, at=len(ahead) + 9)
        for word, most in (("later", 4000), ("sooner", 4000)):
            self.assertEqual(tail_of_curve_text(f"{word}([0],{most}"), ")")
            self.assertIsNone(tail_of_curve_text(f"{word}([0],{most + 1}"))
        self.refuses(BadText, curve_of_text, "[1000000000 1", at=13)
        self.refuses(BadText, curve_of_text, "[1000000000 2", at=12)
        self.refuses(BadText, curve_of_text, "[999999999 1000000000;2by0]", at=25)
        self.assertEqual(tail_of_curve_text("[0 1000000000;2by1"), "000000000]")

    def test_periods_of_the_row(self):
        row = "[" + " ".join(str(one) for one in range(25))
        self.assertEqual(tail_of_curve_text(row + ";2"), "by1]")
        self.assertEqual(tail_of_curve_text(row + ";3"), "by2]")
        self.assertIsNone(tail_of_curve_text(row + ";26"))
        self.assertEqual(tail_of_curve_text(row + ";25by"), "24]")
        self.assertEqual(tail_of_curve_text("[0 0 0 0 0 0 0 0 0 99 99;1"), "by0]")
        self.assertEqual(tail_of_curve_text("[0 9 99;3"), "by99]")


class Texts(Case):
    def test_there_and_back(self):
        lots = Lots(406)
        for _ in range(300):
            curve = some_curve(lots, 9, 30)
            text = curve_text(curve)
            self.assertIs(type(text), str)
            self.assertEqual(curve_of_text(text), curve)
            self.assertEqual(tail_of_curve_text(text), "")

    def test_shortest_of_all(self):
        told = {}
        for first in range(13):
            for steps in range(7):
                for beats in range(1, 8):
                    for word, call in (("line", line), ("late", late)):
                        curve = call(first, steps, beats)
                        text = f"{word}{first} {steps}/{beats}"
                        key = curve.start, curve.period, curve.growth
                        told[key] = min(told.get(key, text), text, key=lambda one: (len(one), one))
        for (start, period, growth), text in told.items():
            curve = Curve(start, period, growth)
            texts = [text]
            for many in range(1, len(start) + 4):
                row = numbers(curve, many)
                values = " ".join(str(one) for one in row)
                texts += [f"[{values};{p}by{growth * p // period}]" for p in range(1, many + 1)] + [f"[{values}]"]
            texts.append(f"flat{start[0]}")
            texts = sorted(texts, key=lambda one: (len(one), one))
            wanted = next(one for one in texts if place_of_wrong(one, "curve") is None and curve_of_text(one) == curve)
            self.assertEqual(curve_text(curve), wanted)

    def test_by_hand(self):
        for curve, text in ((flat(0), "[0]"), (flat(None), "[none]"), (flat(BIG), "[1000000000]"),
                            (line(1, 1, 2), "line1 1/2"), (late(0, 1, 2), "late0 1/2"), (line(0, 1, 2), "late0 1/2"),
                            (line(0, 1, 1), "[0;1by1]"), (late(1, 2, 1), "late1 2/1"), (line(1, 0, 5), "[0 1]"),
                            (Curve([0, 3, None], 1, 0), "[0 3none]"), (Curve([0, 3, 5], 2, 9), "[0 3 5;2by9]"),
                            (line(2, 1, 4), "line2 1/4"), (late(3, 2, 1), "late3 2/1"), (line(2, 2, 4), "line2 1/2"),
                            (late(300, 7, 60), "late300 7/60"), (line(9 * 10 ** 8, BIG, 60), "line900000000 50000000/3"),
                            (Curve([0, 0, 2], 2, 2), "[0 0;2by2]"), (Curve([5], 1, 1), "[5;1by1]")):
            self.assertEqual(curve_text(curve), text)
            self.assertEqual(curve_of_text(text), curve)

    def test_too_many(self):
        self.assertEqual(curve_of_text(curve_text(long_curve(400))), long_curve(400))
        stair = closure(Curve([0] + [1] * 60 + [None], 1, 0))
        self.assertEqual(stair.period, 60)
        self.assertEqual(curve_of_text(curve_text(stair)), stair)
        for curve in (long_curve(401), closure(Curve([0] + [1] * 61 + [None], 1, 0)), raised(flat(BIG), 1),
                      times(line(0, BIG, 1), 2), raised(Curve([0, BIG, None], 1, 0), 1), later(flat(1), 400)):
            self.too_many(400, curve_text, curve)

    def test_great_bursts(self):
        # line(B, S, P) can have values above 10 ** 9 at its start, of which no text is told.
        self.too_many(400, curve_text, line(BIG, BIG, 1))
        self.assertEqual(curve_text(line(BIG - 1, 1, 1)), "line999999999 1/1")


class Wrong(Case):
    def test_refuses(self):
        for thing in (None, 0, b"[0]", ["[0]"], ("[", "0", "]"), flat(0), True):
            self.refuses(BadText, curve_of_text, thing, at=None)
            self.refuses(BadText, tail_of_curve_text, thing, at=None)
        for thing in (None, 0, "[0]", [0]):
            self.refuses(BadCurve, curve_text, thing, part=None)


if __name__ == "__main__":
    unittest.main()
