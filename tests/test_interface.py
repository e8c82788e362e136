"""Tests that the names and arguments of the interface exist as written, each in its own file."""

import importlib
import inspect
import unittest

INTERFACE = {
    "conditions": ("measure(expression)", "variables_in(expression)", "kind_of(expression, kinds)",
                   "check_condition(expression, kinds)"),
    "definitions": ("check_definition(definition)",),
    "domains": ("port_states(definition)", "variables_of(definition, component)"),
    "trees": ("is_tree(family, state, tree)", "is_product(family, tree)", "price_of(family, tree)",
              "span_of(family, tree, number)", "places_of(family, tree)", "with_part(family, tree, number, other)",
              "comes_before(family, first, second)"),
    "least": ("least_round(family, weights)", "least_weights(family)", "settlement(family)",
              "first_tree(family, state)", "cheapest(family)"),
    "useful": ("filled_states(family)", "reached_states(family)", "useful_variants(family)", "trimmed(family)"),
    "greatest": ("greatest_round(family, prices)", "greatest_prices(family)", "dearest_tree(family, state)",
                 "price_range(family)", "price_ceiling(family)"),
    "repetition": ("first_way(family, starts, goal, *, least=0)", "find_repetition(family)",
                   "repeat_part(family, tree, outer, inner, times)"),
    "counting": ("counts_by_size(family, state, most)", "tree_count(family, state)", "product_count(family)"),
    "ranking": ("trees_of_size(family, state, parts)", "least_by_size(family, state, most)",
                "first_products(family, *, many=10, most=8)"),
    "demands": ("part_at(family, names, tree, path)", "satisfies(family, names, tree, demands)", "paths_of(demands)"),
}


class TestInterface(unittest.TestCase):
    def test_names_and_arguments(self):
        for module_name, functions in INTERFACE.items():
            module = importlib.import_module("slotwise." + module_name)
            for told in functions:
                name = told.partition("(")[0]
                function = getattr(module, name)
                self.assertTrue(inspect.isfunction(function), name)
                self.assertEqual(name + str(inspect.signature(function)), told)
                self.assertEqual(function.__module__, "slotwise." + module_name)


if __name__ == "__main__":
    unittest.main()
