"""The interface: each name stands in its module, and takes its arguments by their places."""

import importlib
import inspect
import unittest

FUNCTIONS = {
    "fracs": (
        "divisor(one, other)", "frac_of(top, bottom)", "added(one, other)", "lessened(one, other)",
        "multiplied(one, other)", "quotient(one, other)", "is_below(one, other)", "sum_of(parts)",
        "is_frac(thing)", "look_prime(thing)", "power_in(part, prime)",
    ),
    "spots": (
        "is_spot(thing)", "is_ahead(one, other)", "twice_of(one, other, third)", "turn_of(one, other, third)",
        "is_amid(spot, one, other)", "on_way(one, other, part)",
    ),
    "fields": ("is_field(thing)", "look_field(thing)", "field_twice(field)", "place_in(field, spot)"),
}


class TestInterface(unittest.TestCase):
    def test_functions(self):
        for module_name, written in FUNCTIONS.items():
            module = importlib.import_module("likeshards." + module_name)
            for row in written:
                with self.subTest(module=module_name, row=row):
                    name = row.partition("(")[0]
                    self.assertEqual(row, name + str(inspect.signature(getattr(module, name))))


if __name__ == "__main__":
    unittest.main()
