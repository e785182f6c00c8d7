"""Promises 44 and 45: the desk, its rows and answers, its refusals, and what is taken back."""

import unittest
from fractions import Fraction

from cuttings import COMB, COMB_FIELD, CROSS, GROWN, HALVES, QUARTERS, THIRD_AMID, WHIRL, WHIRL_FIELD, WRITTEN, fan
from likeshards.bends import bent_field, bent_pieces
from likeshards.desk import Desk
from likeshards.errors import NoBend, NoCutting, NoField, NoMove, NoName, NoNumber, NoPaper, NoRow, NoSpot, NoText
from likeshards.errors import NoWay, ShardError, TooMany
from likeshards.fans import fan_cut
from likeshards.finer import cut_at, laid_over
from likeshards.meets import corners_of, counts_of
from likeshards.moves import freedom_of, moved
from likeshards.papers import must_of
from likeshards.pieces import fault_of
from likeshards.telling import told_many
from likeshards.texts import show_cutting, show_frac, show_spot
from likeshards.walks import all_walks
from reckon import threes
from samples import FIELDS, FIVE, HEXAGON, INSIDE, ODD_THINGS, ON_SIDE, SQUARE, TRIANGLE, corners, frac, spot

MIDDLE = spot("1/2", "1/2")
HALVES_TEXT = show_cutting(SQUARE, HALVES)
CROSS_TEXT = show_cutting(SQUARE, CROSS)
THIRTY = "9" * 30


def desk_with(**cuttings):
    """A desk with cuttings (field, pieces) laid by names."""
    desk = Desk()
    for name, (field, pieces) in cuttings.items():
        answer = desk.say(f"lay {name}\n{show_cutting(field, pieces)}")
        assert answer == "ok", answer
    return desk


def plain_desk():
    """Cuttings of a square by a and b, one of a triangle by t."""
    return desk_with(a=(SQUARE, HALVES), b=(SQUARE, CROSS), t=(TRIANGLE, QUARTERS))


def joined(things):
    return " ".join(str(thing) for thing in things)


class TestAnswers(unittest.TestCase):
    def test_lay_and_show(self):
        desk = Desk()
        self.assertEqual("ok", desk.say("lay a\n" + HALVES_TEXT))
        self.assertEqual("field 0,0 1,0 1,1 0,1\npiece 0,0 1,0 1,1\npiece 0,0 1,1 0,1", desk.say("show a"))
        self.assertEqual("ok", desk.say("lay a\n" + CROSS_TEXT))
        self.assertEqual(CROSS_TEXT, desk.say("show a"))
        self.assertEqual("ok", desk.say("lay abcdefgh\n" + HALVES_TEXT))
        self.assertEqual(HALVES_TEXT, desk.say("show abcdefgh"))
        self.assertEqual(CROSS_TEXT, desk.say("show a"))

    def test_names_that_are_words_of_rows(self):
        desk = Desk()
        for name in ("lay", "fault", "show", "undo", "none", "ok", "z"):
            self.assertEqual("ok", desk.say(f"lay {name}\n" + HALVES_TEXT))
            self.assertEqual(HALVES_TEXT, desk.say("show " + name))

    def test_fault(self):
        desk = Desk()
        for pieces, right in (
            (HALVES, "none"), (CROSS, "none"), (HALVES[:1], "left 1/2"), (CROSS[:1], "left 3/4"), (HALVES * 2, "lap 0 2"),
            (CROSS + [HALVES[0]], "lap 0 4"), (HALVES + [TRIANGLE], "beyond 2"), ([TRIANGLE], "beyond 0"),
        ):
            self.assertEqual(right, desk.say("fault\n" + show_cutting(SQUARE, pieces)))
        large = corners((0, 0), (9, 0), (0, 9))
        self.assertEqual("left 75/2", desk.say("fault\n" + show_cutting(large, [TRIANGLE])))
        self.assertEqual("left 40", desk.say("fault\n" + show_cutting(large, [corners((0, 0), (1, 0), (0, 1))])))

    def test_fault_lays_nothing(self):
        desk = plain_desk()
        desk.say("fault\n" + HALVES_TEXT)
        self.assertRaises(NoName, desk.say, "show fault")
        self.assertEqual(HALVES_TEXT, desk.say("show a"))

    def test_of_all_cuttings(self):
        for field, pieces in WRITTEN:
            desk = desk_with(x=(field, pieces))
            self.assertEqual(show_cutting(field, pieces), desk.say("show x"))
            self.assertEqual(joined(counts_of(field, pieces)), desk.say("counts x"))
            self.assertEqual(str(must_of(field)[0]), desk.say("must x"))
            for corner in corners_of(field, pieces):
                self.assertEqual(freedom_of(field, pieces, corner)[0], desk.say("free x " + show_spot(corner)))

    def test_counts_and_must(self):
        desk = plain_desk()
        self.assertEqual("4 5 2", desk.say("counts a"))
        self.assertEqual("5 8 4", desk.say("counts b"))
        self.assertEqual("2", desk.say("must a"))
        self.assertEqual("1", desk.say("must t"))

    def test_many(self):
        desk = desk_with(
            a=(SQUARE, HALVES), s=(ON_SIDE, fan(ON_SIDE)), i=(INSIDE, fan(INSIDE)), f=(FIVE, fan(FIVE)),
            h=(HEXAGON, fan(HEXAGON)),
        )
        self.assertEqual("fan 0", desk.say("many a 2"))
        self.assertEqual("fan 0", desk.say("many a 1000000000"))
        self.assertEqual("hub 9/5,1 0 1 3 1", desk.say("many s 5"))
        self.assertEqual("hub 30/7,22/7 2 2 2 1", desk.say("many i 7"))
        self.assertEqual("hub 9/4,15/4 2 3 4 1 2", desk.say("many f 12"))
        self.assertEqual("open", desk.say("many h 4"))
        self.assertEqual(joined(["never", *told_many(SQUARE, 3)[1]]), desk.say("many a 3"))
        self.assertEqual(joined(["never", *told_many(HEXAGON, 7)[1]]), desk.say("many h 7"))
        for number in ("0", "1000000001", THIRTY):
            self.assertRaises(NoNumber, desk.say, "many a " + number)

    def test_walk(self):
        self.assertEqual("0 1", plain_desk().say("walk a 0 1 3 2"))
        seen = set()
        for field, pieces in WRITTEN + GROWN[:10]:
            desk = desk_with(x=(field, pieces))
            for i, j, k in threes(field):
                frame = (field[i], field[j], field[k])
                for prime in (2, 3):
                    walks = all_walks(field, pieces, frame, prime)
                    good = [walk for walk in walks if walk[-1][2] is None]
                    right = joined(step[0] for step in good[0]) if good else "none"
                    seen.add((bool(good), bool(walks), bool(good) and good[0] != walks[0]))
                    self.assertEqual(right, desk.say(f"walk x {i} {j} {k} {prime}"))
        # With no walk, with none that ends in a full piece, with a first one that does, and with a later one.
        self.assertEqual({(False, False, False), (False, True, False), (True, True, False), (True, True, True)}, seen)

    def test_no_paper(self):
        desk = plain_desk()
        for paper in ("0 1 1 2", "0 1 4 2", "0 1 3 4", "0 1 3 101", "0 1 3 0", "0 0 0 2", f"0 1 {THIRTY} 2", "4 1 0 2"):
            self.assertRaises(NoPaper, desk.say, "walk a " + paper)

    def test_free(self):
        desk = desk_with(a=(SQUARE, CROSS), b=(SQUARE, THIRD_AMID))
        self.assertEqual("free", desk.say("free a 1/2,1/2"))
        self.assertEqual("along", desk.say("free b 1/2,1/2"))
        self.assertEqual("fixed", desk.say("free b 1,1"))
        self.assertRaises(NoSpot, desk.say, "free b 1/2,1/3")


class TestDeeds(unittest.TestCase):
    def test_cut(self):
        desk = plain_desk()
        self.assertEqual("ok", desk.say("cut a 1 1/3,2/3"))
        self.assertEqual(show_cutting(SQUARE, cut_at(SQUARE, HALVES, 1, spot("1/3", "2/3"))), desk.say("show a"))
        self.assertEqual(CROSS_TEXT, desk.say("show b"))
        for row in ("cut b 4 1/2,1/2", "cut b 0 1/2,1/2", "cut b 0 0,0", "cut b 0 5,5", f"cut b {THIRTY} 1/2,1/4"):
            self.assertRaises(NoSpot, desk.say, row)

    def test_cut_too_many(self):
        desk = desk_with(t=(TRIANGLE, fan_cut(TRIANGLE, 0, 30)))
        self.assertRaises(TooMany, desk.say, "cut t 0 1,0")

    def test_move(self):
        desk = plain_desk()
        self.assertEqual("ok", desk.say("move b 1/2,1/2 1/3,1/4"))
        self.assertEqual(show_cutting(SQUARE, moved(SQUARE, CROSS, MIDDLE, spot("1/3", "1/4"))), desk.say("show b"))
        self.assertEqual("ok", desk.say("move a 0,0 0,0"))
        self.assertRaises(NoMove, desk.say, "move a 0,0 1/2,1/2")
        self.assertRaises(NoSpot, desk.say, "move b 1/2,1/2 1/3,1/3")
        with self.assertRaises(NoCutting) as caught:
            desk.say("move b 1/3,1/4 1/2,0")
        self.assertEqual(("piece", 0), caught.exception.fault)

    def test_over(self):
        desk = desk_with(a=(SQUARE, HALVES), b=(SQUARE, fan(SQUARE, 1)))
        right = show_cutting(SQUARE, laid_over(SQUARE, HALVES, fan(SQUARE, 1)))
        self.assertEqual("ok", desk.say("over c a b"))
        self.assertEqual(right, desk.say("show c"))
        self.assertEqual(HALVES_TEXT, desk.say("show a"))
        turned = show_cutting(SQUARE, laid_over(SQUARE, fan(SQUARE, 1), HALVES))
        self.assertNotEqual(turned, right)
        self.assertEqual("ok", desk.say("over a b a"))
        self.assertEqual(turned, desk.say("show a"))
        self.assertEqual("ok", desk.say("over b b b"))

    def test_over_of_another_field(self):
        begun = SQUARE[1:] + SQUARE[:1]
        desk = desk_with(a=(SQUARE, HALVES), t=(TRIANGLE, QUARTERS), b=(begun, HALVES))
        self.assertRaises(NoField, desk.say, "over c a t")
        self.assertRaises(NoField, desk.say, "over c t a")
        self.assertRaises(NoField, desk.say, "over c a b")
        self.assertRaises(NoName, desk.say, "show c")

    def test_over_too_many(self):
        desk = desk_with(a=(TRIANGLE, fan_cut(TRIANGLE, 0, 9)), b=(TRIANGLE, [TRIANGLE]), c=(SQUARE, HALVES))
        self.assertRaises(TooMany, desk.say, "over d a b")
        self.assertRaises(TooMany, desk.say, "over d b a")
        # Another field is refused ahead of this.
        self.assertRaises(NoField, desk.say, "over d a c")

    def test_bend(self):
        desk = plain_desk()
        for bend in ((1, 0, 0, 1, 0, 0), (0, 1, 1, 0, "1/2", -3), ("-1/3", 2, 5, "7/2", 0, "-1/9")):
            parts = tuple(frac(part) for part in bend)
            for name, field, pieces in (("a", SQUARE, HALVES), ("t", TRIANGLE, QUARTERS)):
                self.assertEqual("ok", desk.say(f"bend new {name} " + joined(show_frac(part) for part in parts)))
                right = show_cutting(bent_field(parts, field), bent_pieces(parts, pieces))
                self.assertEqual(right, desk.say("show new"))
                self.assertEqual(show_cutting(field, pieces), desk.say("show " + name))
        self.assertRaises(NoBend, desk.say, "bend new a 1 2 2 4 0 0")
        self.assertRaises(NoBend, desk.say, "bend new a 0 0 0 0 0 0")

    def test_bend_in_its_place(self):
        desk = plain_desk()
        self.assertEqual("ok", desk.say("bend a a 2 0 0 2 0 0"))
        self.assertEqual("field 0,0 2,0 2,2 0,2\npiece 0,0 2,0 2,2\npiece 0,0 2,2 0,2", desk.say("show a"))

    def test_like(self):
        desk = plain_desk()
        self.assertEqual("ok", desk.say("like b 2 6"))
        self.assertEqual(show_cutting(SQUARE, fan_cut(SQUARE, 2, 6)), desk.say("show b"))
        for row in ("like b 4 6", "like b 0 3", "like b 0 0", "like b 0 32", f"like b {THIRTY} 2", f"like b 0 {THIRTY}"):
            self.assertRaises(NoWay, desk.say, row)

    def test_lay_what_is_no_cutting(self):
        desk = plain_desk()
        for pieces in (HALVES[:1], HALVES * 2, HALVES + [TRIANGLE]):
            for name in ("a", "new"):
                with self.assertRaises(NoCutting) as caught:
                    desk.say(f"lay {name}\n" + show_cutting(SQUARE, pieces))
                self.assertEqual(fault_of(SQUARE, pieces), caught.exception.fault)
        self.assertEqual(HALVES_TEXT, desk.say("show a"))
        self.assertRaises(NoName, desk.say, "show new")

    def test_each_field(self):
        for field in FIELDS:
            desk = desk_with(x=(field, fan(field, 1)))
            self.assertEqual("ok", desk.say("over y x x"))
            self.assertEqual("ok", desk.say("bend z y 0 1 1 0 0 0"))
            self.assertEqual("none", desk.say("fault\n" + desk.say("show z")))


NO_ROWS = (
    "", " ", "\n", "hello", "Lay a", "SHOW a", "show", "show ", "show  a", " show a", "show a ", "show a b", "show A",
    "show a1", "show 1", "show abcdefghi", "show a-b", "show a,b", "show\ta", "shows a", "show a\n", "show a\n\n",
    "show a\n" + HALVES_TEXT, "\nshow a", "counts", "counts a\n", "counts a 1", "must", "must a a", "must a\n", "undo",
    "undo a\n", "undo a a", "many", "many a", "many a -1", "many a 01", "many a 1/2", "many a x", "many a 1 2", "many 1 a",
    "many a +1", "many a -0", "many a 1.0", "many a 1" + "0" * 30, "many a " + "0" * 30, "many a 1\n", "many a  1",
    "walk a", "walk a 0 1 2", "walk a 0 1 2 2 2", "walk a 0 1 -2 2", "walk a 0 1 02 2", "walk a 0 1 x 2",
    "walk a 0 1 1/2 2", "walk a 0 1 2 2\n", "walk 0 1 2 2", "walk a b 1 2 2", "walk a 0 1 2 1" + "0" * 30,
    "free a", "free a 0", "free a 0,0,0", "free a 0, 0", "free a 0,0 0,0", "free a -0,0", "free a 2/4,0", "free a 0,0\n",
    "free a 1/1,0", "free 0,0 a", "free a 1" + "0" * 30 + ",0", "free a 0,1/1" + "0" * 30, "free a x,y",
    "cut a", "cut a 0", "cut a 0,0", "cut a 0,0 0", "cut a 0 0", "cut a -1 0,0", "cut a 00 0,0", "cut a 0 0,0 1",
    "cut a 0 0,0\n", "cut a 1/2 0,0", "cut a 0 0,1" + "0" * 30, "move a", "move a 0,0", "move a 0,0 1", "move a 0,0 1,1 1,1",
    "move a 0,0 1,1\n", "move 0,0 1,1", "move a 0,0 1,01", "move a 0,0 1" + "0" * 30 + ",1",
    "over a", "over a b", "over a b a b", "over a b A", "over a b 1", "over a b a\n", "over abcdefghi a b", "over 1 a b",
    "bend a b", "bend a b 1 0 0 1 0", "bend a b 1 0 0 1 0 0 0", "bend a b 1 0 0 1 0 x", "bend a b 1 0 0 1 0 0\n",
    "bend a b 1 0 0 1 0 0/1", "bend a b 1 0 0 2/2 0 0", "bend a 1 0 0 1 0 0", "bend A b 1 0 0 1 0 0",
    "bend a b 1 0 0 1 0 -0", "bend a b 1,0 0,1 0,0", "bend a b 1 0 0 1 0 1" + "0" * 30, "bend a b 1  0 0 1 0 0",
    "like a", "like a 0", "like a 0 2 2", "like a 0 -2", "like a 0 2\n", "like 0 2", "like a 0 1/2", "like a 00 2",
    "like a 0 1" + "0" * 30, "lay", "lay a", "lay\n" + HALVES_TEXT, "lay a b\n" + HALVES_TEXT, "lay A\n" + HALVES_TEXT,
    "lay abcdefghi\n" + HALVES_TEXT, "lay a \n" + HALVES_TEXT, "lay  a\n" + HALVES_TEXT, "lay a1\n" + HALVES_TEXT,
    "lay a " + HALVES_TEXT, "\nlay a\n" + HALVES_TEXT, "fault", "fault a\n" + HALVES_TEXT, "fault \n" + HALVES_TEXT,
    " fault\n" + HALVES_TEXT, "fault " + HALVES_TEXT, HALVES_TEXT, "ok", "none", "laid a\n" + HALVES_TEXT,
)


def state(desk, names=("a", "b", "t", "c", "new", "zz")):
    """What is shown by each name."""
    told = []
    for name in names:
        try:
            told.append(desk.say("show " + name))
        except NoName:
            told.append(None)
    return told


class TestRefused(unittest.TestCase):
    def test_no_row(self):
        desk = plain_desk()
        before = state(desk)
        for text in NO_ROWS:
            with self.subTest(text):
                self.assertRaises(NoRow, desk.say, text)
        self.assertEqual(before, state(desk))

    def test_no_text_at_all(self):
        desk = plain_desk()
        for thing in ODD_THINGS + (["show a"], ("show", "a"), b"show a"):
            self.assertRaises(NoRow, desk.say, thing)

    def test_no_name(self):
        desk = plain_desk()
        before = state(desk)
        for row, name in (
            ("show zz", "zz"), ("counts zz", "zz"), ("must zz", "zz"), ("many zz 2", "zz"), ("walk zz 0 1 2 2", "zz"),
            ("free zz 0,0", "zz"), ("cut zz 0 0,0", "zz"), ("move zz 0,0 0,0", "zz"), ("like zz 0 2", "zz"),
            ("undo zz", "zz"), ("over new zz a", "zz"), ("over new a zz", "zz"), ("over new zz yy", "zz"),
            ("over yy zz a", "zz"), ("bend new zz 1 0 0 1 0 0", "zz"), ("bend yy zz 1 0 0 1 0 0", "zz"),
            # Ahead of what is refused of the rest.
            ("many zz 0", "zz"), ("walk zz 9 9 9 9", "zz"), ("free zz 9,9", "zz"), ("cut zz 99 9,9", "zz"),
            ("bend new zz 0 0 0 0 0 0", "zz"), ("like zz 99 99", "zz"), ("over new t zz", "zz"), ("show lay", "lay"),
        ):
            with self.subTest(row):
                with self.assertRaises(NoName) as caught:
                    desk.say(row)
                self.assertEqual(name, caught.exception.name)
        self.assertEqual(before, state(desk))

    def test_no_row_ahead_of_no_name(self):
        desk = Desk()
        for text in NO_ROWS:
            with self.subTest(text):
                self.assertRaises(NoRow, desk.say, text)

    def test_no_text(self):
        desk = plain_desk()
        before = state(desk)
        field, one, other = HALVES_TEXT.split("\n")
        for behind, at in (
            ("", 0), ("\n", 0), (one, 0), ("x", 0), (field, 1), (field + "\n", 1), (f"{field}\n{other}x", 1),
            (f"{field}\n{one}\n", 2), (f"{field}\n{one}\n{other}\n", 3), (f"{field}\n{one}\n{one} ", 2),
            ("\n" + HALVES_TEXT, 0), ("\n".join([field] + [one] * 31), 31), ("\n".join([field] + [one] * 30 + ["x"]), 31),
            (f"{field}\npiece 0,0 1,1 1,0", 1), ("field 0,0 0,1 1,1 1,0\n" + one, 0),
            (f"{field}\n{one}\npiece 0,0 1,0 1,1" + "0" * 30, 2),
        ):
            for row in ("lay a", "lay new", "fault"):
                with self.subTest(row=row, behind=behind):
                    with self.assertRaises(NoText) as caught:
                        desk.say(row + "\n" + behind)
                    self.assertEqual(at, caught.exception.at)
        self.assertEqual(before, state(desk))

    def test_no_row_ahead_of_no_text(self):
        desk = Desk()
        for row in ("lay", "lay A", "lay a b", "fault a", "show a", "undo a", "x"):
            self.assertRaises(NoRow, desk.say, row + "\nx")

    def test_no_text_ahead_of_the_rest(self):
        field, one, other = HALVES_TEXT.split("\n")
        # The pieces lap, but a row behind them is wrong.
        with self.assertRaises(NoText) as caught:
            Desk().say(f"lay a\n{field}\n{one}\n{one}\nx")
        self.assertEqual(3, caught.exception.at)

    def test_a_refusal_changes_nothing(self):
        desk = plain_desk()
        before = state(desk)
        rows = (
            "many a 0", "walk a 0 1 1 2", "free a 5,5", "cut a 0 5,5", "cut a 9 1/2,1/4", "move a 0,0 1,0", "move b 7,7 7,7",
            "move b 1/2,1/2 1/2,0", "over a a t", "over new a t", "bend a a 0 0 0 0 0 0", "bend new a 1 1 1 1 1 1",
            "like a 0 3", "like a 7 2", "lay a\n" + show_cutting(SQUARE, HALVES[:1]), "lay a\nx", "lay a", "undo zz",
            "show zz", "lay new\n" + show_cutting(SQUARE, HALVES * 2),
        )
        for row in rows:
            with self.subTest(row):
                self.assertRaises(ShardError, desk.say, row)
                self.assertEqual(before, state(desk))
        # Nor is anything there to be taken back but the first laying.
        self.assertEqual("ok", desk.say("undo a"))
        self.assertRaises(NoName, desk.say, "show a")
        self.assertRaises(NoName, desk.say, "undo a")

    def test_told_numbers_of_more_than_thirty_figures(self):
        desk = plain_desk()
        for k in range(2):
            self.assertEqual("ok", desk.say("bend b b 1" + "0" * 29 + " 0 0 1" + "0" * 29 + " 0 0"))
        shown = desk.say("show b")
        middle = shown.split("\n")[1].split(" ")[3]
        self.assertEqual("5" + "0" * 57 + ",5" + "0" * 57, middle)
        for row in (f"free b {middle}", f"move b {middle} {middle}", f"cut b 0 {middle}", f"move b 0,0 {middle}"):
            self.assertRaises(NoRow, desk.say, row)
        self.assertRaises(NoText, desk.say, "lay c\n" + shown)
        # What is told of it is told all the same.
        self.assertEqual("5 8 4", desk.say("counts b"))
        self.assertEqual("2", desk.say("must b"))
        self.assertEqual("fixed", desk.say("free b 0,0"))
        self.assertEqual("ok", desk.say("like b 0 2"))
        self.assertEqual("ok", desk.say("undo b"))
        self.assertEqual(shown, desk.say("show b"))

    def test_thirty_figures(self):
        desk = plain_desk()
        self.assertRaises(NoSpot, desk.say, f"free a {THIRTY},-{THIRTY}")
        self.assertRaises(NoSpot, desk.say, f"free a 1/{THIRTY},0")
        self.assertRaises(NoNumber, desk.say, f"many a {THIRTY}")
        self.assertEqual("ok", desk.say(f"bend a a {THIRTY} 0 0 1/{THIRTY} 0 -{THIRTY}"))


class TestUndo(unittest.TestCase):
    def test_laid_first(self):
        desk = Desk()
        desk.say("lay a\n" + HALVES_TEXT)
        self.assertEqual("ok", desk.say("undo a"))
        for row in ("show a", "undo a", "counts a"):
            with self.assertRaises(NoName) as caught:
                desk.say(row)
            self.assertEqual("a", caught.exception.name)
        self.assertEqual("ok", desk.say("lay a\n" + CROSS_TEXT))
        self.assertEqual(CROSS_TEXT, desk.say("show a"))
        self.assertEqual("ok", desk.say("undo a"))
        self.assertRaises(NoName, desk.say, "show a")

    def test_laid_in_the_place_of_another(self):
        desk = Desk()
        desk.say("lay a\n" + HALVES_TEXT)
        desk.say("lay a\n" + CROSS_TEXT)
        self.assertEqual("ok", desk.say("undo a"))
        self.assertEqual(HALVES_TEXT, desk.say("show a"))
        self.assertEqual("ok", desk.say("undo a"))
        self.assertRaises(NoName, desk.say, "show a")

    DEEDS = (
        "lay a\n" + CROSS_TEXT, "cut a 0 2/3,1/3", "move a 0,0 0,0", "over a a b", "over a b a", "bend a a 2 1 0 1 3 4",
        "bend a b 0 1 1 0 0 0", "like a 1 4", "lay a\n" + HALVES_TEXT, "bend a a 1 0 0 1 0 0", "over a a a", "like a 0 2",
    )

    def test_each_deed(self):
        for row in self.DEEDS:
            with self.subTest(row):
                desk = plain_desk()
                before = state(desk)
                self.assertEqual("ok", desk.say(row))
                self.assertEqual("ok", desk.say("undo a"))
                self.assertEqual(before, state(desk))
                self.assertEqual("ok", desk.say("undo a"))
                self.assertRaises(NoName, desk.say, "show a")

    def test_twice_and_more(self):
        desk = plain_desk()
        seen = [state(desk)]
        done = ("cut a 0 2/3,1/3", "move a 2/3,1/3 3/4,1/4", "cut a 0 1/4,0", "bend a a 0 1 1 0 0 0", "over a a a", "like a 0 6")
        for row in done:
            self.assertEqual("ok", desk.say(row))
            seen.append(state(desk))
        for right in reversed(seen[:-1]):
            self.assertEqual("ok", desk.say("undo a"))
            self.assertEqual(right, state(desk))

    def test_a_deed_by_which_nothing_is_other(self):
        desk = plain_desk()
        desk.say("cut a 0 2/3,1/3")
        cut = desk.say("show a")
        for row in ("move a 2/3,1/3 2/3,1/3", "bend a a 1 0 0 1 0 0", "lay a\n" + cut):
            desk.say(row)
            self.assertEqual(cut, desk.say("show a"))
        for k in range(3):
            self.assertEqual("ok", desk.say("undo a"))
            self.assertEqual(cut, desk.say("show a"))
        self.assertEqual("ok", desk.say("undo a"))
        self.assertEqual(HALVES_TEXT, desk.say("show a"))

    def test_what_only_asks_is_no_deed(self):
        desk = plain_desk()
        desk.say("cut a 0 2/3,1/3")
        for row in ("show a", "counts a", "must a", "many a 4", "walk a 0 1 3 2", "free a 2/3,1/3", "fault\n" + CROSS_TEXT):
            desk.say(row)
        desk.say("undo a")
        self.assertEqual(HALVES_TEXT, desk.say("show a"))

    def test_what_was_taken_back_counts_no_more(self):
        desk = plain_desk()
        desk.say("like a 0 4")
        desk.say("undo a")
        desk.say("like a 0 6")
        desk.say("undo a")
        self.assertEqual(HALVES_TEXT, desk.say("show a"))
        desk.say("undo a")
        self.assertRaises(NoName, desk.say, "undo a")

    def test_undo_is_not_undone(self):
        desk = plain_desk()
        for number in (4, 6):
            desk.say(f"like a 0 {number}")
        desk.say("undo a")
        self.assertEqual(show_cutting(SQUARE, fan_cut(SQUARE, 0, 4)), desk.say("show a"))
        desk.say("undo a")
        self.assertEqual(HALVES_TEXT, desk.say("show a"))

    def test_new_names(self):
        desk = plain_desk()
        for row in ("over new a b", "bend new a 2 0 0 2 0 0"):
            self.assertEqual("ok", desk.say(row))
            self.assertEqual("ok", desk.say("undo new"))
            self.assertRaises(NoName, desk.say, "show new")

    def test_all_other_names_stay(self):
        desk = plain_desk()
        desk.say("cut a 0 2/3,1/3")
        desk.say("over new a b")
        desk.say("like b 0 4")
        laid = desk.say("show new")
        self.assertEqual("ok", desk.say("undo a"))
        self.assertEqual(HALVES_TEXT, desk.say("show a"))
        self.assertEqual(show_cutting(SQUARE, fan_cut(SQUARE, 0, 4)), desk.say("show b"))
        self.assertEqual(laid, desk.say("show new"))
        self.assertEqual("ok", desk.say("undo b"))
        self.assertEqual(CROSS_TEXT, desk.say("show b"))
        self.assertEqual(laid, desk.say("show new"))

    def test_deeds_of_two_names_by_turns(self):
        desk = plain_desk()
        for k in range(1, 5):
            desk.say(f"like a 0 {2 * k}")
            desk.say(f"like b 1 {4 * k}")
        for k in range(3, 0, -1):
            desk.say("undo b")
            self.assertEqual(show_cutting(SQUARE, fan_cut(SQUARE, 1, 4 * k)), desk.say("show b"))
            self.assertEqual(show_cutting(SQUARE, fan_cut(SQUARE, 0, 8)), desk.say("show a"))


class TestDesks(unittest.TestCase):
    def test_two_know_nothing_of_one_another(self):
        one, other = Desk(), Desk()
        one.say("lay a\n" + HALVES_TEXT)
        self.assertRaises(NoName, other.say, "show a")
        other.say("lay a\n" + CROSS_TEXT)
        self.assertEqual(HALVES_TEXT, one.say("show a"))
        one.say("undo a")
        self.assertEqual(CROSS_TEXT, other.say("show a"))
        self.assertRaises(NoName, one.say, "show a")

    def test_answers_are_texts_and_the_same_again(self):
        desk = desk_with(w=(WHIRL_FIELD, WHIRL), c=(COMB_FIELD, COMB))
        for row in ("show w", "counts w", "must w", "many w 7", "walk w 0 1 2 2", "free w 1,2", "show c", "many c 5"):
            told = desk.say(row)
            self.assertIs(str, type(told))
            self.assertEqual(told, desk.say(row))

    def test_say_stands_in_the_class(self):
        self.assertIn("say", vars(Desk))

    def test_area_below_one_is_shown_in_lowest_terms(self):
        field = corners((0, 0), ("1/3", 0), (0, "1/3"))
        piece = corners((0, 0), ("1/6", 0), (0, "1/3"))
        right = Fraction(1, 18) - Fraction(1, 36)
        self.assertEqual(f"left {right}", Desk().say("fault\n" + show_cutting(field, [piece])))


if __name__ == "__main__":
    unittest.main()
