import inspect
import unittest

from asking import EULER, NOT_TUPLES, PARTS, Asking, product
from dividing_plainly import PAIRS, TAU

from etaparts import errors
from etaparts.commands import powers_text, ratio_text
from etaparts.desk import Desk
from etaparts.dividing import decided_dividing
from etaparts.equal import decided_nought
from etaparts.errors import BadText, CommandFailed, InvalidCommand, InvalidDeeds, InvalidDivisor, InvalidExponent, InvalidLevel
from etaparts.errors import InvalidMany, InvalidProduct, InvalidRatio, InvalidRest, InvalidStep, NameTaken, NoProduct, NotFitting
from etaparts.errors import NothingToRedo, NothingToUndo, TooMany, UnknownName
from etaparts.fitting import least_level
from etaparts.kindtexts import kind_text, parse_kind
from etaparts.powers import as_product, kind_row, powers_row, unlike_place
from etaparts.products import product_at, product_power, product_times
from etaparts.series import product_row
from etaparts.sums import sum_of

PLAIN = "modulus 1\nparts all"
ONCE = "modulus 1\nparts all\nmost 1 all"
MIXED = "modulus 3 # rests\nparts all\ncolours 2 0\nmost 1 0"
NOT_COMMANDS = ["", "other", "kind k", "sum", "sum S", "undo ", " undo", "row k", "product p", "term s 2/4 p", True, False, None, 0, 1, b"undo",
                [], ["undo"], (), ("undo",), {}, {1}, object()]


def laid_out():
    """A desk with things of each sort."""
    desk = Desk()
    for line in ("kind k " + PLAIN, "kind o " + ONCE, "product p 1:-1", "product t 1:24", "product n 1", "sum s", "sum e", "term s 1 t"):
        desk.do(line)
    return desk


def state(desk):
    return {name: desk[name] for name in desk.names()}, desk.lines(), len(desk)


def taken_again(desk):
    """The lines that redo tells, as often as it can."""
    twin, lines = desk.twin(), []
    while True:
        try:
            lines.append(twin.do("redo"))
        except NothingToRedo:
            return lines


class AskingDesk(Asking):
    def fails(self, desk, error, attributes, command):
        """The command fails, and nothing is changed."""
        ahead, again = state(desk), taken_again(desk)
        self.told(error, attributes, desk.do, command)
        self.assertEqual(state(desk), ahead)
        self.told(error, attributes, desk, command)
        self.assertEqual(state(desk), ahead)
        with self.assertRaises(CommandFailed) as caught:
            desk.do_all("names", command)
        self.assertEqual(vars(caught.exception), {"position": 1})
        self.assertIs(type(caught.exception.__cause__), error)
        self.assertEqual(vars(caught.exception.__cause__), attributes)
        self.assertEqual(state(desk), ahead)
        self.assertEqual(taken_again(desk), again)


class TestDesk(AskingDesk):
    def test_a_new_one(self):
        desk = Desk()
        self.same([desk.names(), desk.lines(), len(desk), desk.do("names")], [[], [], 0, "-"])
        self.no("k" in desk)

    def test_the_methods_stand_in_the_class(self):
        for name, parameters in (("names", ["self"]), ("lines", ["self"]), ("twin", ["self"]), ("do", ["self", "command"]),
                                 ("do_all", ["self", "commands"]), ("__call__", ["self", "command"]), ("__len__", ["self"])):
            self.assertEqual(list(inspect.signature(vars(Desk)[name]).parameters), parameters)
        self.assertIsInstance(vars(Desk)["again"], classmethod)
        self.assertEqual(list(inspect.signature(Desk.again).parameters), ["lines"])
        for name in ("__getitem__", "__contains__"):
            self.assertIn(name, vars(Desk))
        self.assertEqual(Desk.__module__, "etaparts.desk")
        self.same(Desk().do(command="sum s"), "-")
        self.same(Desk()(command="sum s"), "-")
        self.same(Desk.again(lines=["sum s"]).names(), ["s"])

    def test_what_is_kept(self):
        desk = laid_out()
        self.same(desk.names(), ["e", "k", "n", "o", "p", "s", "t"])
        self.same(desk.do("names"), "e k n o p s t")
        self.same(desk["k"], parse_kind(PLAIN))
        self.same([desk["p"], desk["t"], desk["n"]], [PARTS, TAU, product()])
        self.same([desk["s"], desk["e"]], [sum_of([((1, 1), TAU)]), ("sum", ())])
        self.same(len(desk), 8)
        for name in desk.names():
            self.yes(name in desk)
        for value in ["x", "K", "kk", "", "names"] + NOT_TUPLES + [("k",), (), ("k", "o")]:
            self.no(value in desk)
            if not isinstance(value, str) or value != "k":
                self.told(UnknownName, {"value": value}, desk.__getitem__, value)
        self.told(UnknownName, {"value": "x"}, lambda: desk["x"])
        with self.assertRaises(TypeError):
            iter(desk)

    def test_new_lists(self):
        desk = laid_out()
        self.new_each_time(desk.names)
        self.new_each_time(desk.lines)
        self.new_each_time(lambda: Desk().do_all("names"))

    def test_no_commands(self):
        for desk in (Desk(), laid_out()):
            for value in NOT_COMMANDS:
                self.fails(desk, InvalidCommand, {"value": value}, value)

    def test_things_made(self):
        desk = laid_out()
        for line in ("count a o", "times b p t", "times c p p", "power d p -24", "power f p 0", "at g t 3", "copy h s", "copy i k",
                     "kind j " + MIXED):
            self.same(desk.do(line), "-")
        self.same(desk["a"], as_product(parse_kind(ONCE)))
        self.same([desk["b"], desk["c"]], [product_times(PARTS, TAU), product_times(PARTS, PARTS)])
        self.same([desk["d"], desk["f"], desk["g"]], [product_power(PARTS, -24), product(), product_at(TAU, 3)])
        self.same([desk["h"], desk["i"], desk["j"]], [desk["s"], desk["k"], parse_kind(MIXED)])
        # What is kept doesn't hang on other names.
        self.same(desk.do_all("drop s", "drop k", "drop o", "drop p", "drop t"), ["-"] * 5)
        self.same([desk["h"], desk["i"], desk["b"]], [sum_of([((1, 1), TAU)]), parse_kind(PLAIN), product_times(PARTS, TAU)])
        self.fails(desk, UnknownName, {"value": "s"}, "show s")

    def test_texts_with_blanks_and_line_feeds(self):
        desk = Desk()
        for at, text in enumerate((" modulus 1", "modulus 1 \n \nparts all\n", "\n\nmodulus 2\nparts 1", "# one\nmodulus 1 # two", "modulus 1\n")):
            name = f"k{at}"
            self.same(desk.do(f"kind {name} {text}"), "-")
            self.same(desk[name], parse_kind(text))
            self.same(desk.lines()[-1], f"kind {name} {text}")
        self.fails(desk, BadText, {"position": 0}, "kind k x")
        self.fails(desk, BadText, {"position": 1}, "kind k  ")
        self.fails(desk, BadText, {"position": 10}, "kind k modulus 1 parts all")
        self.fails(desk, BadText, {"position": 1}, "kind k \n")

    def test_terms(self):
        desk = Desk()
        desk.do_all("sum s", "product p 1:-1", "product q 2:3", "term s 1 p", "term s -1/2 q", "term s -1/2 p", "term s 3 q")
        self.same(desk["s"], sum_of([((1, 2), PARTS), ((5, 2), product((2, 3)))]))
        self.same(desk.do("show s"), "1/2 1:-1\n5/2 2:3")
        desk.do("term s -1/2 p")
        self.same(desk.do("show s"), "5/2 2:3")
        desk.do("term s -5/2 q")
        self.same([desk.do("show s"), desk["s"]], ["0", ("sum", ())])
        self.fails(desk, InvalidRatio, {"value": (0, 1)}, "term s 0 p")
        self.same(desk.do("show s"), "0")

    def test_eight_terms(self):
        desk = Desk()
        desk.do("sum s")
        for step in range(1, 10):
            desk.do(f"product p{step} {step}:1")
        for step in range(1, 9):
            desk.do(f"term s 1 p{step}")
        self.fails(desk, TooMany, {"what": "terms", "limit": 8}, "term s 1 p9")
        self.same(desk.do_all("term s -1 p1", "term s 1 p9")[1], "-")
        self.same(desk.do("show s"), "\n".join(f"1 {step}:1" for step in range(2, 10)))

    def test_shows(self):
        desk = laid_out()
        desk.do("kind m " + MIXED)
        desk.do_all("product l 1:-6,5:5", "term e 1/2 l", "term e -3 p")
        self.same([desk.do("show k"), desk.do("show m")], [kind_text(parse_kind(PLAIN)), kind_text(parse_kind(MIXED))])
        self.same(desk.do("show m"), "modulus 3\nparts all\ncolours 2 0\nmost 1 0\n")
        self.same([desk.do("show p"), desk.do("show n"), desk.do("show l")], ["1:-1", "1", "1:-6,5:5"])
        self.same([desk.do("show e"), desk.do("show s")], ["-3 1:-1\n1/2 1:-6,5:5", "1 1:24"])

    def test_answers_against_the_functions(self):
        desk = laid_out()
        desk.do_all("kind m " + MIXED, "product d 1:-2", "product f 1:2,11:2", "count c o")
        kinds = {"k": parse_kind(PLAIN), "o": parse_kind(ONCE), "m": parse_kind(MIXED)}
        products = {"p": PARTS, "t": TAU, "n": product(), "d": PAIRS, "f": product((1, 2), (11, 2)), "c": as_product(kinds["o"])}
        for name in kinds:
            for many in (0, 1, 7, 40):
                self.same(desk.do(f"row {name} {many}"), " ".join(map(str, kind_row(kinds[name], many))) or "-")
                self.same(desk.do(f"powers {name} {many}"), " ".join(map(str, powers_row(kinds[name], many))) or "-")
            for other in kinds:
                place = unlike_place(kinds[name], kinds[other])
                self.same(desk.do(f"alike {name} {other}"), "ever" if place is None else str(place))
        for name in products:
            self.same(desk[name], products[name])
            self.same(desk.do(f"show {name}"), powers_text(products[name]))
            for many in (0, 1, 7, 40):
                self.same(desk.do(f"numbers {name} {many}"), " ".join(map(str, product_row(products[name], many))) or "-")
            level = least_level(products[name])
            self.same(desk.do(f"level {name}"), "-" if level is None else str(level))
            for m, t, u in ((5, 4, 5), (5, 3, 5), (2, 1, 2), (3, 2, 3), (7, 5, 7), (1, 0, 2)):
                try:
                    paper = decided_dividing(products[name], m, t, u)
                except TooMany as wrong:
                    self.fails(desk, TooMany, vars(wrong), f"divides {name} {m} {t} {u}")
                    continue
                word = "ever" if paper[0] == "divisible" else "place"
                self.same(desk.do(f"divides {name} {m} {t} {u}"), word + " " + " ".join(map(str, paper[1:])))
        self.same([desk.do("divides p 5 4 5"), desk.do("divides p 5 3 5"), desk.do("level p"), desk.do("level t")],
                  ["ever 5 1 5", "place 0 0 1", "-", "1"])

    def test_nought(self):
        desk = Desk()
        desk.do_all("product a 1:-8,2:20,4:-8", "product b 1:8,2:-4", "product c 2:-4,4:8", "sum s", "sum e", "term s 1 a", "term s -1/2 b")
        for line in ("term s -1/2 b", "term s -16 c", "term s 1/3 c"):
            desk.do(line)
            for level in (4, 8, 12):
                paper = decided_nought(level, desk["s"])
                wanted = ["ever"] if paper[0] == "nought" else ["place", str(paper[1])]
                self.same(desk.do(f"nought s {level}"), " ".join(wanted + [ratio_text(paper[2])]))
        desk.do("term s -1/3 c")
        self.same([desk.do("nought s 4"), desk.do("nought e 1")], ["ever 1", "ever 0"])
        desk.do("term s 2/3 c")
        self.same(desk.do("nought s 4"), "place 1 2/3")
        self.fails(desk, NotFitting, {}, "nought s 2")
        self.fails(desk, InvalidLevel, {"value": 0}, "nought s 0")
        self.fails(desk, InvalidLevel, {"value": 121}, "nought s 121")

    def test_same(self):
        desk = laid_out()
        desk.do_all("copy q p", "copy l k", "copy r s", "product x 1:1")
        self.same([desk.do(line) for line in ("same p q", "same p x", "same k l", "same k o", "same s r", "same s e", "same p p")],
                  ["yes", "no", "yes", "no", "yes", "no", "yes"])
        # Both are of one sort.
        self.fails(desk, UnknownName, {"value": "k"}, "same p k")
        self.fails(desk, UnknownName, {"value": "p"}, "same s p")
        self.fails(desk, UnknownName, {"value": "y"}, "same y z")
        self.fails(desk, UnknownName, {"value": "z"}, "same p z")

    def test_count_tells_the_same_numbers(self):
        for text in (PLAIN, ONCE, "modulus 2\nparts 1", "modulus 4\nparts all\ncolours 3 0\nmost 2 all", "modulus 1"):
            desk = Desk()
            desk.do("kind k " + text)
            desk.do("count p k")
            self.same(desk.do("row k 50"), desk.do("numbers p 50"))
            self.same(desk.do("row k 200"), desk.do("numbers p 200"))


class TestErrors(AskingDesk):
    def test_names_taken_and_unknown(self):
        desk = laid_out()
        for line in ("kind {} x", "product {} 0:0", "count {} p", "times {} x y", "power {} x 99", "at {} x 0", "sum {}", "copy {} x"):
            for name in ("k", "p", "s"):
                self.fails(desk, NameTaken, {"name": name}, line.format(name))
        for line, name in (("count q x", "x"), ("count q p", "p"), ("count q s", "s"), ("times q x y", "x"), ("times q p y", "y"),
                           ("times q k s", "k"), ("times q p k", "k"), ("power q k 99", "k"), ("at q s 0", "s"), ("term x 0 y", "x"),
                           ("term p 0 y", "p"), ("term s 0 y", "y"), ("term s 0 k", "k"), ("term s 1 s", "s"), ("copy q x", "x"),
                           ("drop x", "x"), ("show x", "x"), ("row p 5", "p"), ("row x 9999", "x"), ("numbers k 5", "k"), ("powers s 5", "s"),
                           ("alike k p", "p"), ("alike x y", "x"), ("alike s p", "s"), ("level k", "k"), ("nought p 0", "p"),
                           ("divides k 0 0 0", "k"), ("same x p", "x"), ("drop q", "q"), ("times q q q", "q"), ("copy q q", "q")):
            self.fails(desk, UnknownName, {"value": name}, line)

    def test_errors_of_tables_and_functions(self):
        desk = laid_out()
        self.fails(desk, InvalidProduct, {"value": product((5, 5), (1, 1))}, "product q 5:5,1:1")
        self.fails(desk, InvalidProduct, {"value": product((1, 0))}, "product q 1:0")
        self.fails(desk, InvalidProduct, {"value": product((0, 5))}, "product q 0:5")
        self.fails(desk, InvalidProduct, {"value": product((61, 5))}, "product q 61:5")
        self.fails(desk, InvalidProduct, {"value": product((1, -61))}, "product q 1:-61")
        self.fails(desk, InvalidProduct, {"value": product((1, 1), (1, 1))}, "product q 1:1,1:1")
        desk.do("kind x modulus 5\nparts 1 4")
        self.fails(desk, NoProduct, {}, "count q x")
        self.fails(desk, TooMany, {"what": "powers", "limit": 60}, "power q t 3")
        self.fails(desk, InvalidExponent, {"value": 61}, "power q p 61")
        self.fails(desk, InvalidExponent, {"value": -99}, "power q p -99")
        self.fails(desk, InvalidStep, {"value": 0}, "at q p 0")
        self.fails(desk, InvalidStep, {"value": 61}, "at q p 61")
        desk.do("product z 60:1")
        self.fails(desk, TooMany, {"what": "step", "limit": 60}, "at q z 2")
        self.fails(desk, InvalidMany, {"value": 3001}, "row k 3001")
        self.fails(desk, InvalidMany, {"value": 9999}, "numbers p 9999")
        self.fails(desk, InvalidMany, {"value": 3001}, "powers k 3001")
        self.fails(desk, InvalidStep, {"value": 0}, "divides p 0 0 0")
        self.fails(desk, InvalidRest, {"value": 5}, "divides p 5 5 0")
        self.fails(desk, InvalidDivisor, {"value": 1}, "divides p 5 4 1")
        self.fails(desk, TooMany, {"what": "level", "limit": 120}, "divides p 6 0 2")
        desk.do("term e 1 p")
        self.fails(desk, NotFitting, {}, "nought e 1")

    def test_sixteen_names(self):
        desk = Desk()
        for at in range(16):
            desk.do(f"sum n{at}")
        desk.do_all("drop n15", "product p 1:-1")
        self.assertEqual(len(desk.names()), 16)
        for line in ("sum x", "kind x modulus 1", "product x 1", "times x p p", "power x p 2", "at x p 2", "copy x p"):
            self.fails(desk, TooMany, {"what": "names", "limit": 16}, line)
        # The errors of what would be made come ahead, as do names.
        self.fails(desk, BadText, {"position": 0}, "kind x what")
        self.fails(desk, InvalidStep, {"value": 0}, "at x p 0")
        self.fails(desk, InvalidProduct, {"value": product((1, 0))}, "product x 1:0")
        self.fails(desk, NameTaken, {"name": "p"}, "sum p")
        self.fails(desk, UnknownName, {"value": "y"}, "copy x y")
        # What makes no name more is done.
        self.same([desk.do("term n0 1 p"), desk.do("drop n1"), desk.do("sum x")], ["-"] * 3)

    def test_two_hundred_deeds(self):
        desk = Desk()
        desk.do_all("sum s", "product p 1:-1")
        for at in range(99):
            desk.do("term s 1 p")
            desk.do("term s -1 p")
        self.assertEqual(len(desk), 200)
        for line in ("term s 1 p", "drop s", "sum x", "copy x s"):
            self.fails(desk, TooMany, {"what": "deeds", "limit": 200}, line)
        self.fails(desk, InvalidRatio, {"value": (0, 1)}, "term s 0 p")
        self.same([desk.do("show p"), desk.do("undo"), desk.do("redo"), desk.do("undo"), desk.do("drop s")],
                  ["1:-1", "term s -1 p", "term s -1 p", "term s -1 p", "-"])
        self.fails(desk, TooMany, {"what": "deeds", "limit": 200}, "drop p")
        # Sixteen names and two hundred deeds: the names come first.
        desk = Desk()
        desk.do("product p 1:-1")
        for at in range(15):
            desk.do(f"sum n{at}")
        for at in range(184):
            desk.do("term n0 1 p")
        self.assertEqual([len(desk), len(desk.names())], [200, 16])
        self.fails(desk, TooMany, {"what": "names", "limit": 16}, "sum x")
        self.fails(desk, TooMany, {"what": "deeds", "limit": 200}, "drop p")


class TestTakenBack(AskingDesk):
    def test_undo_and_redo(self):
        desk = Desk()
        self.fails(desk, NothingToUndo, {}, "undo")
        self.fails(desk, NothingToRedo, {}, "redo")
        lines = ["sum s", "product p 1:-1", "term s 1/2 p", "copy q p", "drop p"]
        states = [state(desk)]
        for line in lines:
            self.same(desk.do(line), "-")
            states.append(state(desk))
        self.same(desk.lines(), lines)
        self.fails(desk, NothingToRedo, {}, "redo")
        for at in range(4, -1, -1):
            self.same(desk.do("undo"), lines[at])
            self.assertEqual(state(desk), states[at])
        self.fails(desk, NothingToUndo, {}, "undo")
        for at in range(5):
            self.same(desk.do("redo"), lines[at])
            self.assertEqual(state(desk), states[at + 1])
        self.fails(desk, NothingToRedo, {}, "redo")

    def test_a_deed_between(self):
        desk = Desk()
        desk.do_all("sum s", "sum t", "sum u", "undo", "undo")
        # What tells something is no deed, nor is one that fails.
        desk.do("names")
        self.fails(desk, NameTaken, {"name": "s"}, "sum s")
        self.same(desk.do("redo"), "sum t")
        desk.do("sum v")
        self.fails(desk, NothingToRedo, {}, "redo")
        self.same([desk.do("undo"), desk.do("undo"), desk.do("redo"), desk.do("redo")], ["sum v", "sum t", "sum t", "sum v"])
        self.same(desk.lines(), ["sum s", "sum t", "sum v"])
        self.same(len(desk), 3)

    def test_do_all(self):
        desk = Desk()
        self.same(desk.do_all(), [])
        self.same(desk.do_all("sum s", "names", "undo", "names", "redo"), ["-", "s", "sum s", "-", "sum s"])
        self.same(desk.lines(), ["sum s"])
        desk.do_all("sum t", "undo")
        ahead = state(desk)
        for position, commands in ((0, ("other",)), (0, (None,)), (1, ("undo", "undo", "redo")), (3, ("sum x", "undo", "redo", "redo")),
                                   (2, ("sum x", "drop s", "drop s", "sum y")), (1, ("drop s", "show s"))):
            with self.assertRaises(CommandFailed) as caught:
                desk.do_all(*commands)
            found = caught.exception
            self.assertIs(type(found), CommandFailed)
            if commands[0] == "undo" and position == 1:
                self.assertIs(type(found.__cause__), NothingToUndo)
            self.assertEqual(vars(found), {"position": position})
            self.assertIsNotNone(found.__cause__)
            self.assertEqual(state(desk), ahead)
            self.same(taken_again(desk), ["sum t"])
        with self.assertRaises(CommandFailed) as caught:
            desk.do_all("names", 5)
        self.assertIs(type(caught.exception.__cause__), InvalidCommand)
        self.assertEqual([vars(caught.exception), vars(caught.exception.__cause__)], [{"position": 1}, {"value": 5}])

    def test_the_cause_is_the_error(self):
        desk = laid_out()
        for line, error, attributes in (("sum k", NameTaken, {"name": "k"}), ("show x", UnknownName, {"value": "x"}),
                                        ("redo", NothingToRedo, {}), ("row k 9999", InvalidMany, {"value": 9999}),
                                        ("divides p 6 0 2", TooMany, {"what": "level", "limit": 120}), ("", InvalidCommand, {"value": ""})):
            with self.assertRaises(CommandFailed) as caught:
                desk.do_all(line)
            self.assertIs(type(caught.exception.__cause__), error)
            self.assertEqual(vars(caught.exception.__cause__), attributes)


class TestTwins(AskingDesk):
    def test_each_goes_on_alone(self):
        desk = laid_out()
        desk.do_all("sum x", "sum y", "undo", "undo")
        ahead = state(desk)
        twin = desk.twin()
        self.assertIs(type(twin), Desk)
        self.assertIsNot(twin, desk)
        self.assertEqual(state(twin), ahead)
        self.same(taken_again(twin), ["sum x", "sum y"])
        twin.do_all("redo", "drop k", "term s 1 p", "drop o")
        self.assertEqual(state(desk), ahead)
        self.same(taken_again(desk), ["sum x", "sum y"])
        behind = state(twin)
        desk.do_all("undo", "undo", "sum z", "drop p")
        self.assertEqual(state(twin), behind)
        self.same([twin.do("undo"), twin.do("undo")], ["drop o", "term s 1 p"])
        self.same(desk.lines()[-2:], ["sum z", "drop p"])
        self.same(twin.lines()[-2:], ["sum x", "drop k"])

    def test_of_a_new_one(self):
        desk = Desk()
        twin = desk.twin()
        twin.do("sum s")
        self.same([desk.names(), twin.names()], [[], ["s"]])
        self.fails(desk.twin(), NothingToUndo, {}, "undo")


class TestAgain(AskingDesk):
    def test_the_same_once_more(self):
        desk = laid_out()
        desk.do_all("drop e", "sum x", "undo")
        again = Desk.again(desk.lines())
        self.assertIs(type(again), Desk)
        self.assertEqual(state(again), state(desk))
        self.fails(again, NothingToRedo, {}, "redo")
        self.assertEqual(state(Desk.again(tuple(desk.lines()))), state(desk))
        self.assertEqual(state(Desk.again([])), state(Desk()))
        self.assertEqual(state(Desk.again(())), state(Desk()))
        for _ in range(9):
            again.do("undo")
        self.same(again.names(), [])

    def test_of_two_hundred_lines(self):
        lines = ["sum s"] + ["copy x s", "drop x"] * 100
        self.same(len(Desk.again(lines[:200])), 200)
        with self.assertRaises(CommandFailed) as caught:
            Desk.again(lines)
        self.assertEqual(vars(caught.exception), {"position": 200})
        self.assertEqual(vars(caught.exception.__cause__), {"what": "deeds", "limit": 200})

    def test_wrong_lines(self):
        for value in (None, True, 0, 1, "", "sum s", b"", {}, {"sum s": 1}, {1}, object(), Desk()):
            self.told(InvalidDeeds, {"position": None}, Desk.again, value)
        for value in NOT_COMMANDS + ["undo", "redo", "names", "show s", "row k 5", "same s s"]:
            self.told(InvalidDeeds, {"position": 0}, Desk.again, [value])
            self.told(InvalidDeeds, {"position": 2}, Desk.again, ["sum s", "sum t", value, "other"])
        # What is no deed comes ahead of what fails.
        self.told(InvalidDeeds, {"position": 2}, Desk.again, ["sum s", "sum s", "undo"])
        for lines, position, error in ((["sum s", "sum s"], 1, NameTaken), (["drop s"], 0, UnknownName),
                                       (["product p 1:0"], 0, InvalidProduct), (["sum s", "kind k x"], 1, BadText)):
            with self.assertRaises(CommandFailed) as caught:
                Desk.again(lines)
            self.assertIs(type(caught.exception), CommandFailed)
            self.assertEqual(vars(caught.exception), {"position": position})
            self.assertIs(type(caught.exception.__cause__), error)

    def test_what_is_passed_stays(self):
        lines = ["sum s", "copy t s"]
        desk = Desk.again(lines)
        lines.append("drop s")
        self.same(desk.lines(), ["sum s", "copy t s"])
        self.assertTrue(issubclass(errors.CommandFailed, errors.StateError))
        self.assertEqual(desk["s"], ("sum", ()))
        self.no(EULER in desk)


if __name__ == "__main__":
    unittest.main()
