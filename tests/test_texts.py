"""Promises 42 and 43: fractions, spots and cuttings written, and read again."""

import copy
import random
import unittest
from fractions import Fraction

from cuttings import CROSS, CUTTINGS, HALVES, fan
from likeshards.errors import NoField, NoText
from likeshards.fans import fan_cut
from likeshards.texts import read_cutting, read_frac, read_spot, show_cutting, show_frac, show_spot
from samples import FIELDS, HEXAGON, ODD_THINGS, SQUARE, TRIANGLE, corners, frac, some_spots, spot

THIRTY = "9" * 30
# By texts the fractions that are written so.
WRITTEN_FRACS = {
    "0": (0, 1), "1": (1, 1), "-1": (-1, 1), "7": (7, 1), "10": (10, 1), "-120": (-120, 1), "1/2": (1, 2),
    "-1/2": (-1, 2), "22/7": (22, 7), "-355/113": (-355, 113), "3/10": (3, 10), "100/3": (100, 3), "1/100": (1, 100),
    THIRTY: (10 ** 30 - 1, 1), "-" + THIRTY: (1 - 10 ** 30, 1), "1/" + THIRTY: (1, 10 ** 30 - 1),
    f"-{10 ** 30 - 2}/{THIRTY}": (2 - 10 ** 30, 10 ** 30 - 1), "1" + "0" * 29: (10 ** 29, 1),
}
NO_FRACS = (
    "", " ", "-", "/", "-/", "00", "01", "-0", "-01", "+1", "+0", "--1", "-+1", "1-", "1/", "/2", "1/0", "0/1", "1/1", "5/1",
    "-5/1", "0/2", "0/5", "-0/5", "2/4", "6/3", "-2/4", "4/2", "1/02", "01/2", "1/-2", "-1/-2", "1/+2", "+1/2", "1//2",
    "1/2/3", " 1", "1 ", "1 /2", "1/ 2", "- 1", "-1 /2", "1\n", "\n1", "1/2\n", "1\n2", "a", "1a", "a1", "1/a", "x/2", "1.5",
    "1,5", "1_0", "1,2", "0x1", "1e3", "None", "True", "1" + "0" * 30, "-1" + "0" * 30, "1/1" + "0" * 30, "0" * 31,
    "1" + "0" * 30 + "/3", "9" * 31, "9" * 4000, "9" * 9000, "1/" + "9" * 5000,
)
NO_TEXTS = tuple(thing for thing in ODD_THINGS if not isinstance(thing, str)) + (b"1", ["1/2"], ("1", "2"), {"a": 1})


class TestShow(unittest.TestCase):
    def test_fracs(self):
        for text, part in WRITTEN_FRACS.items():
            self.assertEqual(text, show_frac(part))

    def test_spots(self):
        self.assertEqual("0,0", show_spot(spot(0, 0)))
        self.assertEqual("-1/2,3", show_spot(spot("-1/2", 3)))
        self.assertEqual("7,-22/7", show_spot(spot(7, "-22/7")))

    def test_cutting(self):
        self.assertEqual("field 0,0 1,0 1,1 0,1\npiece 0,0 1,0 1,1\npiece 0,0 1,1 0,1", show_cutting(SQUARE, HALVES))
        self.assertEqual("field 0,0 3,0 0,2\npiece 0,0 3,0 3/2,1", show_cutting(TRIANGLE, fan_cut(TRIANGLE, 0, 2)[:1]))

    def test_great_numbers(self):
        great = 10 ** 3999 + 1
        self.assertEqual("1" + "0" * 3998 + "1", show_frac((great, 1)))
        self.assertEqual("-1/1" + "0" * 3998 + "1", show_frac((-1, great)))

    def test_no_field(self):
        for thing in ODD_THINGS + (SQUARE[::-1], list(SQUARE), SQUARE[:2]):
            self.assertRaises(NoField, show_cutting, thing, HALVES)

    def test_the_list_stays(self):
        pieces = list(CROSS)
        text = show_cutting(SQUARE, pieces)
        self.assertEqual(CROSS, pieces)
        pieces.clear()
        self.assertEqual(text, show_cutting(SQUARE, list(CROSS)))


class TestReadFrac(unittest.TestCase):
    def wrong(self, ask, thing):
        with self.subTest(thing):
            with self.assertRaises(NoText) as caught:
                ask(thing)
            self.assertEqual(0, caught.exception.at)
            self.assertIs(int, type(caught.exception.at))

    def test_fracs(self):
        for text, part in WRITTEN_FRACS.items():
            self.assertEqual(part, read_frac(text))

    def test_no_fracs(self):
        for text in NO_FRACS + NO_TEXTS:
            self.wrong(read_frac, text)

    def test_again_the_same(self):
        chance = random.Random(42)
        for k in range(300):
            most = 10 ** chance.choice((1, 2, 5, 30))
            part = frac(Fraction(chance.randint(1 - most, most - 1), chance.randint(1, most - 1)))
            self.assertEqual(part, read_frac(show_frac(part)))

    def test_just_what_is_so_written(self):
        chance = random.Random(43)
        read = 0
        for k in range(4000):
            text = "".join(chance.choice("0123/-1") for j in range(chance.randint(1, 5)))
            try:
                part = read_frac(text)
            except NoText:
                continue
            read += 1
            self.assertEqual(text, show_frac(part))
            self.assertEqual(frac(Fraction(text)), part)
        self.assertGreater(read, 200)

    def test_what_is_not_read_is_no_ones_text(self):
        told = {show_frac(frac(Fraction(top, bottom))) for top in range(-40, 41) for bottom in range(1, 41)}
        for text in sorted(told):
            self.assertEqual(frac(Fraction(text)), read_frac(text))
        for top in range(-12, 13):
            for bottom in range(-2, 13):
                text = f"{top}/{bottom}"
                if text not in told:
                    self.wrong(read_frac, text)

    def test_spots(self):
        self.assertEqual(spot("-1/2", 3), read_spot("-1/2,3"))
        self.assertEqual(spot(0, 0), read_spot("0,0"))
        for place in some_spots(42, 60, 10 ** 6) + some_spots(43, 20, 10 ** 30 - 1):
            self.assertEqual(place, read_spot(show_spot(place)))

    def test_no_spots(self):
        for text in (
            "", ",", "1", "1,", ",1", "1,2,3", "1,2,", ",1,2", "1, 2", "1 ,2", " 1,2", "1,2 ", "1;2", "1 2", "1,2\n", "(1,2)",
            "1,,2", "1/2", "1/2,2/4", "2/4,1/2", "1,-0", "-0,1", "+1,2", "1,02",
        ):
            self.wrong(read_spot, text)
        for text in NO_FRACS:
            self.wrong(read_spot, text + ",1")
            self.wrong(read_spot, "1," + text)
        for thing in NO_TEXTS:
            self.wrong(read_spot, thing)


FIELD = "field 0,0 1,0 1,1 0,1"
ONE = "piece 0,0 1,0 1,1"
OTHER = "piece 0,0 1,1 0,1"


def rows(*several):
    return "\n".join(several)


class TestReadCutting(unittest.TestCase):
    def wrong(self, at, text):
        with self.subTest(text):
            with self.assertRaises(NoText) as caught:
                read_cutting(text)
            self.assertEqual(at, caught.exception.at)
            self.assertIs(int, type(caught.exception.at))

    def test_written_out(self):
        self.assertEqual((SQUARE, HALVES), read_cutting(rows(FIELD, ONE, OTHER)))
        self.assertEqual((SQUARE, HALVES[:1]), read_cutting(rows(FIELD, ONE)))

    def test_again_the_same(self):
        tried = 0
        for field, pieces in CUTTINGS:
            text = show_cutting(field, pieces)
            if all(len(number) <= 30 for number in text.translate(str.maketrans("/-,\n", "    ")).split()):
                tried += 1
                told = read_cutting(text)
                self.assertIsInstance(told, tuple)
                self.assertIsInstance(told[1], list)
                self.assertEqual((field, pieces), told)
        self.assertGreater(tried, 30)

    def test_no_cutting_is_asked_for(self):
        for pieces in (HALVES[:1], HALVES + HALVES, [TRIANGLE], HALVES[::-1] + CROSS):
            self.assertEqual((SQUARE, pieces), read_cutting(show_cutting(SQUARE, pieces)))

    def test_each_field(self):
        for field in FIELDS:
            self.assertEqual((field, fan(field)), read_cutting(show_cutting(field, fan(field))))

    def test_row_0(self):
        for row in (
            "", " ", "field", "field ", " " + FIELD, FIELD + " ", "Field" + FIELD[5:], "fields" + FIELD[5:], FIELD[6:],
            "piece" + FIELD[5:], "field  0,0 1,0 1,1 0,1", "field 0,0  1,0 1,1 0,1", "field\t0,0 1,0 1,1 0,1",
            "field 0,0 1,0", "field 0,0", "field 0,0 1,0 1,1 0,1 0,1", "field 0,0 0,1 1,1 1,0", "field 0,0 1,0 2,0",
            "field 0,0 1,0 1,1 1/2,1/2", "field 0,0 1,0 1,1 0,01", "field 0,0 1,0 1,1 -0,1", "field 0,0 1,0 1,1 0,2/2",
            "field 0,0 1,0 1,1 0,+1", "field 0,0 1,0 1,1 0,1/1", "field 0,0 1,0 1,1 0", "field 0,0 1,0 1,1 0,1,2",
            "field 0,0 1,0 1,1 0,1" + "0" * 30, ONE, "field 0,0,1,0,1,1,0,1", "field, 0,0 1,0 1,1 0,1",
            "field 1,0 3,0 4,1 4,3 3,4 1,4 0,3",
        ):
            self.wrong(0, rows(row, ONE, OTHER))
            # The first wrong row is told.
            self.wrong(0, rows(row, "x"))
            self.wrong(0, row)

    def test_a_piece(self):
        for row in (
            "", " ", "piece", "piece ", " " + ONE, ONE + " ", "Piece" + ONE[5:], "pieces" + ONE[5:], ONE[6:], FIELD,
            "field" + ONE[5:], "piece  0,0 1,0 1,1", "piece 0,0  1,0 1,1", "piece 0,0 1,0", "piece 0,0 1,0 1,1 0,1",
            "piece 0,0 1,1 1,0", "piece 0,0 1,0 2,0", "piece 0,0 0,0 1,1", "piece 0,0 1,0 1,01", "piece 0,0 1,0 1,-0",
            "piece 0,0 1,0 1,2/4", "piece 0,0 1,0 1,1/1", "piece 0,0 1,0 1,+1", "piece 0,0 1,0 1", "piece 0,0 1,0 1,1,1",
            "piece 0,0 1,0 1,1" + "0" * 30, "piece 0,0 1,0 1,1/1" + "0" * 30, "x",
        ):
            self.wrong(1, rows(FIELD, row))
            self.wrong(1, rows(FIELD, row, OTHER))
            self.wrong(2, rows(FIELD, ONE, row))
            self.wrong(2, rows(FIELD, ONE, row, "x", OTHER))
            self.wrong(4, rows(FIELD, ONE, OTHER, ONE, row, ONE))
            self.wrong(30, rows(FIELD, *[ONE] * 29, row))

    def test_no_piece(self):
        self.wrong(1, FIELD)
        self.wrong(1, FIELD + "\n")
        self.wrong(1, FIELD + "\n\n")

    def test_line_feed_at_the_end(self):
        self.wrong(2, rows(FIELD, ONE, ""))
        self.wrong(3, rows(FIELD, ONE, OTHER, ""))
        self.wrong(0, "\n" + rows(FIELD, ONE, OTHER))
        self.wrong(1, rows(FIELD, "", ONE))

    def test_thirty_and_more(self):
        pieces = fan_cut(TRIANGLE, 0, 30)
        text = show_cutting(TRIANGLE, pieces)
        self.assertEqual((TRIANGLE, pieces), read_cutting(text))
        self.assertEqual((SQUARE, HALVES[:1] * 30), read_cutting(rows(FIELD, *[ONE] * 30)))
        for more in (ONE, "", "x", FIELD, "piece 0,0 1,1 1,0"):
            self.wrong(31, rows(FIELD, *[ONE] * 30, more))
            self.wrong(31, rows(FIELD, *[ONE] * 30, more, more))
        self.wrong(31, rows(FIELD, *[ONE] * 40))
        # A wrong row ahead of it is the first.
        self.wrong(30, rows(FIELD, *[ONE] * 29, "x", *[ONE] * 9))
        self.wrong(7, rows(FIELD, *[ONE] * 6, "x", *[ONE] * 30))

    def test_thirty_figures(self):
        far = 10 ** 30 - 1
        field = corners((0, 0), (far, 0), (Fraction(1, far), far))
        self.assertEqual((field, [field]), read_cutting(show_cutting(field, [field])))
        further = corners((0, 0), (far + 1, 0), (0, far))
        self.wrong(0, show_cutting(further, [further]))
        self.wrong(1, show_cutting(field, [further]))
        under = corners((0, 0), (far, 0), (Fraction(1, far + 1), far))
        self.wrong(0, show_cutting(under, [field]))
        self.wrong(2, show_cutting(field, [field, under]))
        below = corners((-far, -far), (0, 0), (-far, 0))
        self.assertEqual((below, [below]), read_cutting(show_cutting(below, [below])))

    def test_no_text(self):
        for thing in NO_TEXTS:
            self.wrong(0, thing)

    def test_other_line_ends(self):
        for sign in ("\r\n", "\r", "\x0b", "\x0c", "\u2028"):
            self.assertRaises(NoText, read_cutting, sign.join([FIELD, ONE, OTHER]))

    def test_told_anew(self):
        text = show_cutting(HEXAGON, fan(HEXAGON))
        told = read_cutting(text)
        kept = copy.deepcopy(told)
        told[1].clear()
        self.assertEqual(kept, read_cutting(text))


if __name__ == "__main__":
    unittest.main()
