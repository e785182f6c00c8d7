"""The interface: each name stands in its module, and takes its arguments by their places."""

import importlib
import inspect
import unittest

FUNCTIONS = {
    "fracs": (
        "divisor(one, other)", "frac_of(top, bottom)", "added(one, other)", "lessened(one, other)",
        "multiplied(one, other)", "quotient(one, other)", "is_below(one, other)", "sum_of(parts)",
        "is_frac(thing)", "look_prime(thing)", "power_in(part, prime)",
    ),
    "spots": (
        "is_spot(thing)", "is_ahead(one, other)", "twice_of(one, other, third)", "turn_of(one, other, third)",
        "is_amid(spot, one, other)", "on_way(one, other, part)",
    ),
    "fields": ("is_field(thing)", "look_field(thing)", "field_twice(field)", "place_in(field, spot)"),
    "pieces": (
        "is_piece(thing)", "do_lap(one, other)", "fault_of(field, pieces)", "look_cutting(field, pieces)",
    ),
    "left": ("parted_by(patch, one, other)", "left_over(field, pieces)"),
    "meets": (
        "corners_of(field, pieces)", "bits_of(field, pieces, k)", "meets_of(field, pieces)",
        "counts_of(field, pieces)",
    ),
    "colours": ("in_frame(frame, spot)", "colour_of(u, v, prime)", "colour_by(frame, prime, spot)"),
    "doors": (
        "doors_of(field, pieces, frame, prime, k)", "full_of(field, pieces, frame, prime)",
        "border_doors(field, pieces, frame, prime)", "odd_sides(field, frame, prime)",
    ),
    "walks": (
        "walk_from(field, pieces, frame, prime, door)", "all_walks(field, pieces, frame, prime)",
        "walk_stands(field, pieces, frame, prime, walk)",
    ),
    "papers": (
        "look_paper(field, paper)", "odd_of(field, paper)", "bar_of(field, paper)", "bars_many(field, paper, many)",
        "bars_row(field, paper, row)", "must_of(field)",
    ),
    "fans": ("fan_of(field, c)", "shares_of(field, c)", "fan_cut(field, c, many)"),
    "hubs": ("hub_of(field, many)", "hub_cut(field, spot, counts)"),
    "telling": ("told_many(field, many)", "trapeze_of(part)"),
    "rows": ("told_row(field, row)", "row_cut(field, row, c, groups)"),
    "moves": (
        "freedom_of(field, pieces, spot)", "moved(field, pieces, spot, goal)", "with_moved(pieces, spot, goal)",
        "signed_sum(pieces)",
    ),
    "finer": (
        "cut_at(field, pieces, k, spot)", "holders_of(field, pieces, others)", "is_finer(field, pieces, others)",
        "laid_over(field, pieces, others)",
    ),
    "bends": (
        "look_bend(thing)", "size_of(bend)", "bent(bend, spot)", "bent_field(bend, field)", "bent_pieces(bend, pieces)",
        "both_bends(one, other)", "bend_back(bend)",
    ),
    "texts": (
        "show_frac(part)", "show_spot(spot)", "show_cutting(field, pieces)", "read_frac(text)", "read_spot(text)",
        "read_cutting(text)",
    ),
}


class TestInterface(unittest.TestCase):
    def test_functions(self):
        for module_name, written in FUNCTIONS.items():
            module = importlib.import_module("likeshards." + module_name)
            for row in written:
                with self.subTest(module=module_name, row=row):
                    name = row.partition("(")[0]
                    self.assertEqual(row, name + str(inspect.signature(getattr(module, name))))

    def test_desk(self):
        desk = importlib.import_module("likeshards.desk").Desk
        self.assertEqual("()", str(inspect.signature(desk)))
        self.assertEqual("(self, text)", str(inspect.signature(vars(desk)["say"])))


if __name__ == "__main__":
    unittest.main()
