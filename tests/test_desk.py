"""A desk: its lines, what it keeps, and deeds that are taken back and done again."""

import random
import re
import unittest

from goodsigns.bounds import Bound
from goodsigns.choices import good_signs
from goodsigns.covers import cover
from goodsigns.desk import Desk
from goodsigns.errors import BadLine, BadNumber, BadText, Impossible, Misfit, NoName, Nothing, SignsError, TooMany, Twice
from goodsigns.meansums import mean_sum
from goodsigns.pairings import pairing_poly
from goodsigns.polys import Poly
from goodsigns.reals import NotReal, within
from goodsigns.webs import Web
from helpers import Strange, across, check_raises, drawn_web, fields_of, full, no_integers, raised, ring_of, row_of

HALL = Web(6, across(3, 3))
KEPT = ["keep two bound 0 2 2", "keep less bound 0 1 6", f"keep hall web {HALL}", "keep cube poly 1 0 -3 -2", "keep line poly 1 -1"]
# Each form of a line, with what its names want.
FORMS = {"pair": ["new", "web"], "add": ["new", "poly", "poly"], "sign": ["new", "web", "bound"], "within": ["poly", "bound"], "drop": ["any"]}


def desk_with(*lines):
    """A desk that was told some lines that keep something, and these behind them."""
    return Desk.read(KEPT + list(lines))


def seen(desk):
    """All that can be seen of a desk, but what was taken back."""
    return desk.done(), desk.names(), [(type(desk.kept(name)), str(desk.kept(name))) for name in desk.names()]


def first_wrong_item(line):
    """The index of the first item of a string that cannot stand, None if it is a line."""
    items = line.split(" ")
    if items[0] not in (*FORMS, "keep"):
        return 0
    names = 1 if items[0] == "keep" else len(FORMS[items[0]])
    for at in range(1, names + 1):
        if at >= len(items) or not re.fullmatch("[a-z][a-z0-9]{0,11}", items[at]):
            return at
    if items[0] != "keep":
        return names + 1 if len(items) > names + 1 else None
    kinds = {"bound": Bound, "poly": Poly, "web": Web}
    if len(items) < 3 or items[2] not in kinds:
        return 2
    error = raised(kinds[items[2]].read, " ".join(items[3:]))
    return None if error is None else error.item + 3


class Mirror:
    """What a desk should do, told by copies of all that was kept."""

    def __init__(self):
        self.states, self.lines, self.at = [{}], [], 0

    def tell(self, line):
        """The answer of a line, or what it raises."""
        kept = dict(self.states[self.at])
        try:
            answer = self.answer(kept, line)
        except SignsError as error:
            return error
        if kept != self.states[self.at]:
            self.states[self.at + 1:] = [kept]
            self.lines[self.at:] = [line]
            self.at += 1
        return answer

    def answer(self, kept, line):
        """The answer of a line, kept being changed."""
        item = first_wrong_item(line)
        if item is not None:
            raise BadText(0, item)
        word, *items = line.split(" ")
        wants, values = FORMS.get(word, ["new"]), []
        for name, want in zip(items, wants):
            if want == "new":
                if name in kept:
                    raise Twice(name)
            elif name not in kept:
                raise NoName(name)
            elif want not in ("any", {Bound: "bound", Poly: "poly", Web: "web"}[type(kept[name])]):
                raise Misfit(want)
            else:
                values.append(kept[name])
        return getattr(self, word)(kept, items, *values)

    def keep(self, kept, items):
        """The answer of keep."""
        kept[items[0]] = {"bound": Bound, "poly": Poly, "web": Web}[items[1]].read(" ".join(items[2:]))
        return "kept"

    def pair(self, kept, items, web):
        """The answer of pair."""
        kept[items[0]] = pairing_poly(web)
        return " ".join([str(number) for number in kept[items[0]].numbers])

    def add(self, kept, items, one, other):
        """The answer of add."""
        found = mean_sum(one, other)
        if max([abs(number) for number in found.numbers]) >= 10 ** 60:
            raise TooMany("digits", 60)
        kept[items[0]] = found
        return " ".join([str(number) for number in found.numbers])

    def sign(self, kept, items, web, bound):
        """The answer of sign."""
        found = good_signs(web, bound, list(range(len(web.ties))))
        if not found:
            return f"toogreat {found.power}"
        kept[items[0]] = cover(web, found.signs)
        return " ".join(["signs", *map(str, found.signs)])

    def within(self, kept, items, poly, bound):
        """The answer of within."""
        found = within(poly, bound)
        return "none" if found else f"above {found.power}"

    def drop(self, kept, items, value):
        """The answer of drop."""
        del kept[items[0]]
        return "dropped"


class Lines(unittest.TestCase):
    def check_wrong(self, desk, error, line):
        """Check that a line raises just this, and changes nothing."""
        ahead = seen(desk)
        check_raises(self, error, desk.tell, line)
        self.assertEqual(seen(desk), ahead)

    def test_keep(self):
        desk = Desk()
        for kind, made, texts in (("bound", Bound, ["0 2 2", "-3 1 8", "9 -" + "9" * 60 + " 0"]), ("poly", Poly, ["1", "2 0 -5", "1 " + "0 " * 62 + "7"]),
                                  ("web", Web, ["1 :", "60 :", "4 : 0 1 0 3 1 2", str(Web(60, row_of(60)))])):
            for at, text in enumerate(texts):
                self.assertEqual(desk.tell(line=f"keep {kind}{at} {kind} {text}"), "kept")
                self.assertIs(type(desk.kept(name=f"{kind}{at}")), made)
                self.assertEqual((str(desk.kept(f"{kind}{at}")), desk.kept(f"{kind}{at}")), (text, made.read(text)))
        self.assertEqual(desk.names(), ("bound0", "bound1", "bound2", "poly0", "poly1", "poly2", "web0", "web1", "web2", "web3"))
        # The words are names, too.
        for name in ("keep", "bound", "poly", "web", "drop", "a", "z0", "abcdefghijkl", "a12345678901"):
            self.assertEqual(desk.tell(f"keep {name} poly 1"), "kept")

    def test_pair(self):
        desk = desk_with()
        self.assertEqual(desk.tell("pair means hall"), "1 0 -9 0 18 0 -6")
        self.assertEqual(desk.kept("means"), pairing_poly(HALL))
        draw = random.Random(201)
        for at in range(15):
            web = drawn_web(draw, draw.randint(1, 8), 0.5)
            desk.tell(f"keep w{at} web {web}")
            self.assertEqual(desk.tell(f"pair p{at} w{at}"), str(pairing_poly(web)))
        desk.tell(f"keep long web {Web(60, row_of(60))}")
        self.assertEqual(desk.tell("pair row long"), str(pairing_poly(Web(60, row_of(60)))))
        desk.tell(f"keep wide web {Web(17, ring_of(17))}")
        self.check_wrong(desk, TooMany("places", 16), "pair more wide")

    def test_add(self):
        desk = desk_with("keep poly poly 2 0 -4", "keep other poly 3 0 0")
        self.assertEqual(desk.tell("add found poly other"), "1 0 -2")
        self.assertEqual(desk.tell("add again other poly"), "1 0 -2")
        self.assertEqual(desk.tell("add same line line"), "1 -2")
        self.assertEqual((desk.kept("found"), desk.kept("same")), (Poly([1, 0, -2]), Poly([1, -2])))
        self.check_wrong(desk, Misfit("degree"), "add more line cube")
        self.check_wrong(desk, Misfit("degree"), "add more cube poly")

    def test_a_sum_of_just_60_digits_and_more(self):
        nines, half = "9" * 60, "4" + "9" * 59
        desk = Desk.read([f"keep one poly 1 {nines}", "keep zero poly 1 0", "keep step poly 1 1", f"keep less poly 1 -{nines}", "keep minus poly 1 -1",
                          f"keep half poly 1 {half}", "keep two poly 2 1", f"keep first poly {nines} 1", f"keep flat poly 1 0 0"])
        self.assertEqual(desk.tell("add found one zero"), f"1 {nines}")
        self.assertEqual(desk.tell("add minusone less zero"), f"1 -{nines}")
        self.assertEqual(desk.tell("add most half half"), f"1 {2 * int(half)}")
        for line in ("add more one step", "add more less minus", "add more one one", "add more first two"):
            self.check_wrong(desk, TooMany("digits", 60), line)
        # Misfit comes ahead of it.
        self.check_wrong(desk, Misfit("degree"), "add more one flat")
        # Behind lowest terms it has 60 digits.
        desk.tell(f"keep even poly 2 {'8' * 60}")
        self.assertEqual(desk.tell("add terms even zero"), f"1 {'4' * 60}")

    def test_sign(self):
        desk = desk_with("keep few web 3 :", "keep far bound 99 0 0", "keep low bound -1 0 0")
        self.assertEqual(desk.tell("sign tower hall two"), "signs 1 1 1 1 1 1 1 1 -1")
        self.assertEqual(desk.kept("tower"), cover(HALL, [1] * 8 + [-1]))
        self.assertEqual(desk.tell("sign high few far"), "signs")
        self.assertEqual(desk.kept("high"), Web(6, []))
        ahead = seen(desk)
        self.assertEqual([desk.tell("sign more hall less"), desk.tell("sign more few low"), desk.tell("sign more hall low")],
                         ["toogreat 0", "toogreat 2", "toogreat 5"])
        self.assertEqual(seen(desk), ahead)
        desk.tell(f"keep wide web {Web(25, [])}")
        desk.tell(f"keep rings web {Web(12, full(12))}")
        self.check_wrong(desk, TooMany("places", 24), "sign more wide low")
        self.check_wrong(desk, TooMany("rings", 5000), "sign more rings low")

    def test_within(self):
        desk = desk_with("keep plus poly 1 0 1", "keep high poly 1" + " 0" * 25, "pair means hall")
        ahead = seen(desk)
        self.assertEqual([desk.tell("within means two"), desk.tell("within means less"), desk.tell("within cube two")], ["none", "above 0", "none"])
        self.assertEqual(seen(desk), ahead)
        error = raised(desk.tell, "within plus two")
        self.assertIs(type(error), Impossible)
        self.assertIs(type(error.paper), NotReal)
        self.check_wrong(desk, TooMany("degree", 24), "within high two")

    def test_drop(self):
        desk = desk_with()
        for name in ("two", "hall", "cube"):
            self.assertEqual(desk.tell(f"drop {name}"), "dropped")
            check_raises(self, NoName(name), desk.kept, name)
            self.check_wrong(desk, NoName(name), f"drop {name}")
        self.assertEqual(desk.names(), ("less", "line"))
        self.assertEqual(desk.tell("keep two poly 1 1"), "kept")
        self.assertEqual(desk.kept("two"), Poly([1, 1]))

    def test_names_that_are_kept_or_not_or_of_another_kind(self):
        desk = desk_with()
        cases = [("keep two bound 0 0 0", Twice("two")), ("pair hall hall", Twice("hall")), ("add two cube cube", Twice("two")),
                 ("sign line hall two", Twice("line")), ("pair two no", Twice("two")), ("pair two two", Twice("two")), ("add two no two", Twice("two")),
                 ("sign two no no", Twice("two")), ("pair x no", NoName("no")), ("pair x x", NoName("x")), ("pair x two", Misfit("web")),
                 ("pair x cube", Misfit("web")), ("add x no no2", NoName("no")), ("add x two no", Misfit("poly")), ("add x cube no", NoName("no")),
                 ("add x cube two", Misfit("poly")), ("add x hall no", Misfit("poly")), ("add x line cube", Misfit("degree")),
                 ("sign x no two", NoName("no")), ("sign x two no", Misfit("web")), ("sign x cube cube", Misfit("web")), ("sign x hall no", NoName("no")),
                 ("sign x hall hall", Misfit("bound")), ("sign x hall cube", Misfit("bound")), ("within no no", NoName("no")),
                 ("within two no", Misfit("poly")), ("within hall two", Misfit("poly")), ("within cube no", NoName("no")),
                 ("within cube line", Misfit("bound")), ("within cube hall", Misfit("bound")), ("drop no", NoName("no")), ("drop x", NoName("x"))]
        for line, error in cases:
            self.check_wrong(desk, error, line)
        # The form of the line comes first, whatever its names are.
        for line, item in (("keep two web 2 : 0 0", 6), ("keep two", 2), ("keep two bound", 3), ("pair two", 2), ("pair two no no", 3), ("add two two", 3),
                           ("drop no no", 2), ("within no", 2), ("within no no no", 3), ("sign two no", 3), ("keep two bound 1 1 -1", 5)):
            self.check_wrong(desk, BadText(0, item), line)

    def test_items_changed_left_out_put_in(self):
        draw = random.Random(202)
        desk = desk_with()
        lines = KEPT + ["pair new hall", "add new cube line", "sign new hall two", "within cube two", "drop two", "keep w web 4 : 0 1 0 3 1 2", "keep p poly 7"]
        others = ["", "keep", "drop", "pair", "bound", "poly", "web", ":", "0", "1", "-1", "01", "x", "A", "1a", "a_", "abcdefghijklm", "hall", "two", "\u00e9",
                  "9" * 61]
        told = {True: 0, False: 0}
        for line in lines:
            items = line.split(" ")
            self.assertIsNone(first_wrong_item(line))
            for at in range(len(items) + 1):
                other = draw.sample(others, 6) + ["", "x", ":"]
                changed = [items[:at] + items[at + 1:]] + [items[:at] + [each] + items[at + 1:] for each in other]
                for each in changed + [items[:at] + [each] + items[at:] for each in other]:
                    text = " ".join(each)
                    item = first_wrong_item(text)
                    told[item is None] += 1
                    if item is not None:
                        self.check_wrong(desk, BadText(0, item), text)
        self.assertGreater(min(told.values()), 60)

    def test_lines_that_are_none(self):
        desk = desk_with()
        for value in no_integers() + [0, 7, ["drop two"], b"drop two"]:
            if not isinstance(value, str):
                self.check_wrong(desk, BadText(0, 0), value)
        for line, item in (("", 0), (" ", 0), ("keep", 1), ("keep ", 1), ("Keep a poly 1", 0), ("keep a", 2), ("keep a poly", 3), ("keep a poly ", 3),
                           ("keep a web", 3), ("keep a web 2", 4), ("keep a bound 1 2", 5), ("keep a bound 1 2 3 4", 6), ("keep a poly 0", 3),
                           ("keep a poly" + " 1" * 65, 67), ("keep a sign 1", 2), ("drop", 1), ("drop ", 1), ("drop two ", 2), (" drop two", 0),
                           ("drop  two", 1), ("drop two\n", 1), ("keep a new 1", 2), ("new", 0), ("any", 0), ("within cube", 2), ("add x cube line ", 4)):
            self.assertEqual(first_wrong_item(line), item)
            self.check_wrong(desk, BadText(0, item), line)

    def test_a_name_that_is_none(self):
        desk = desk_with()
        for value in no_integers() + [0, "no", "Two", "two ", ["two"], ("two",), b"two", "abcdefghijklm", Strange()]:
            found = raised(desk.kept, value)
            self.assertIs(type(found), NoName)
            self.assertIs(found.value, value)


class Deeds(unittest.TestCase):
    def test_back_and_again(self):
        desk = Desk()
        check_raises(self, Nothing(), desk.back)
        check_raises(self, Nothing(), desk.again)
        lines = KEPT + ["pair means hall", "drop hall", "keep hall bound 1 1 1", "drop two"]
        states = [seen(desk)]
        for line in lines:
            desk.tell(line)
            states.append(seen(desk))
            self.assertEqual(desk.done(), tuple(lines[:len(states) - 1]))
        check_raises(self, Nothing(), desk.again)
        for at in range(len(lines) - 1, -1, -1):
            self.assertIsNone(desk.back())
            self.assertEqual(seen(desk), states[at])
        check_raises(self, Nothing(), desk.back)
        for at in range(1, len(states)):
            self.assertIsNone(desk.again())
            self.assertEqual(seen(desk), states[at])
        check_raises(self, Nothing(), desk.again)

    def test_lines_that_raise_or_change_nothing(self):
        desk = desk_with("pair means hall", "drop line")
        desk.back()
        desk.back()
        for line in ("within cube two", "sign x hall less", "keep two bound 1 1 1", "drop no", "x", "add x cube line", "pair x cube", None):
            raised(desk.tell, line)
            check_raises(self, NoName("means"), desk.kept, "means")
        desk.again()
        self.assertEqual(desk.kept("means"), pairing_poly(HALL))
        desk.tell("within means two")
        desk.again()
        self.assertEqual((desk.names(), desk.done()[-2:]), (("cube", "hall", "less", "means", "two"), ("pair means hall", "drop line")))
        desk.back()
        desk.tell("drop means")
        check_raises(self, Nothing(), desk.again)
        self.assertEqual(desk.done()[-2:], ("pair means hall", "drop means"))

    def test_the_same_deed_takes_away_what_was_taken_back(self):
        desk = desk_with("drop two", "drop less")
        desk.back()
        desk.back()
        self.assertEqual(desk.tell("drop two"), "dropped")
        check_raises(self, Nothing(), desk.again)

    def test_drawn_deeds(self):
        draw = random.Random(203)
        names = ["a", "b", "c", "d", "hall", "two"]
        for _ in range(40):
            desk, mirror = Desk(), Mirror()
            for _ in range(60):
                self.step(draw, desk, mirror, names)
                kept = mirror.states[mirror.at]
                self.assertEqual(desk.names(), tuple(sorted(kept)))
                self.assertEqual(desk.done(), tuple(mirror.lines[:mirror.at]))
                for name in names:
                    if name in kept:
                        self.assertEqual(desk.kept(name), kept[name])
                    else:
                        check_raises(self, NoName(name), desk.kept, name)
            found = Desk.read(desk.done())
            self.assertEqual(seen(found), seen(desk))

    def step(self, draw, desk, mirror, names):
        """Do one drawn step at a desk and at its mirror."""
        way = draw.random()
        if way < 0.2 or way > 0.9:
            function, step = (desk.back, -1) if way < 0.2 else (desk.again, 1)
            if 0 <= mirror.at + step < len(mirror.states):
                mirror.at += step
                self.assertIsNone(function())
            else:
                check_raises(self, Nothing(), function)
            return
        word = draw.choice(["keep", "keep", "keep", *FORMS])
        line = " ".join([word] + [draw.choice(names) for _ in FORMS.get(word, ["new"])])
        if word == "keep":
            line += draw.choice([" bound 0 2 2", " bound 0 1 6", f" web {HALL}", " poly 1 0 -3 -2", " poly 1 -1", " web 4 : 0 1 0 3 1 2", " poly 1 0 1",
                                 " poly 0", " web 1"])
        wanted = mirror.tell(line)
        if isinstance(wanted, Impossible):
            self.assertEqual(raised(desk.tell, line).paper, wanted.paper)
        elif isinstance(wanted, SignsError):
            check_raises(self, wanted, desk.tell, line)
        else:
            self.assertEqual(desk.tell(line), wanted)

    def test_two_desks_share_nothing(self):
        one, other = Desk(), Desk()
        one.tell("keep a poly 1")
        self.assertEqual((one.names(), other.names(), other.done()), (("a",), (), ()))


class Reading(unittest.TestCase):
    def test_own_lines(self):
        desk = desk_with("pair means hall", "within means two", "sign tower hall two", "drop hall", "sign x tower less", "add sum cube cube")
        desk.back()
        found = Desk.read(lines=desk.done())
        self.assertEqual(seen(found), seen(desk))
        self.assertEqual(found.done(), (*KEPT, "pair means hall", "sign tower hall two", "drop hall"))
        check_raises(self, Nothing(), found.again)
        self.assertEqual(seen(desk.read(list(desk.done()))), seen(desk))
        for lines in ([], ()):
            self.assertEqual(seen(Desk.read(lines)), ((), (), []))

    def test_a_line_that_raises(self):
        for line, error in (("drop no", NoName("no")), ("keep two bound 1 1 1", Twice("two")), ("", BadText(0, 0)), ("pair x cube", Misfit("web")),
                            ("keep w web 2 : 0 0", BadText(0, 6)), ("add x cube line", Misfit("degree"))):
            for lines in (KEPT + [line], tuple(KEPT + [line, "drop also", ""]), KEPT + ["within cube two"] * 3 + [line, line]):
                found = raised(Desk.read, lines)
                self.assertEqual((type(found), found.line), (BadLine, list(lines).index(line)))
                self.assertEqual((type(found.error), fields_of(found.error)), (type(error), fields_of(error)))
        found = raised(Desk.read, ["keep plus poly 1 0 1", "keep two bound 0 2 2", "within plus two"])
        self.assertEqual((found.line, type(found.error), type(found.error.paper)), (2, Impossible, NotReal))
        check_raises(self, BadNumber("lines"), Desk.read, ["drop no", None])

    def test_no_list_of_strings(self):
        for value in no_integers() + [0, 1, "drop two", {"drop two": 1}, {"drop two"}]:
            if value not in ([], ()) or isinstance(value, Strange):
                check_raises(self, BadNumber("lines"), Desk.read, value)
            if not isinstance(value, str):
                check_raises(self, BadNumber("lines"), Desk.read, [value])
                check_raises(self, BadNumber("lines"), Desk.read, ("keep a poly 1", value))

    def test_what_is_passed_stays(self):
        lines = ["keep a poly 1", "drop a"]
        desk = Desk.read(lines)
        lines.append("x")
        self.assertEqual((desk.done(), lines), (("keep a poly 1", "drop a"), ["keep a poly 1", "drop a", "x"]))


if __name__ == "__main__":
    unittest.main()
