"""Tests that the names and arguments of the interface exist as written, each in its own file."""

import importlib
import inspect
import pathlib
import unittest

PACKAGE = pathlib.Path(__file__).resolve().parent.parent / "slotwise"

INTERFACE = {
    "conditions": ("measure(expression)", "variables_in(expression)", "kind_of(expression, kinds)",
                   "check_condition(expression, kinds)"),
    "evaluation": ("value_of(expression, values)", "holds(condition, values)"),
    "tokens": ("tokens_of(text)",),
    "reader": ("read_condition(text)",),
    "printer": ("show_condition(expression)",),
    "definitions": ("check_definition(definition)",),
    "domains": ("port_states(definition)", "variables_of(definition, component)"),
    "variants": ("variants_of(definition, component)", "family_of(definition)", "slot_names_of(definition)"),
    "listing": ("read_definition(text)", "show_definition(definition)"),
    "trees": ("is_tree(family, state, tree)", "is_product(family, tree)", "price_of(family, tree)",
              "span_of(family, tree, number)", "places_of(family, tree)", "with_part(family, tree, number, other)",
              "comes_before(family, first, second)"),
    "least": ("least_round(family, weights)", "least_weights(family)", "settlement(family)",
              "first_tree(family, state)", "cheapest(family)"),
    "useful": ("filled_states(family)", "reached_states(family)", "useful_variants(family)", "trimmed(family)"),
    "containing": ("cheapest_with(family, marked)", "cheapest_with_all(family, groups)",
                   "cheapest_without(family, marked)"),
    "transfer": ("cost_of(family, table, number)", "margins_of(family, table)", "is_floor(family, table)",
                 "is_ceiling(family, table)", "least_prices(family)", "larger_of(first, second)",
                 "smaller_of(first, second)"),
    "normal": ("normal_form(family)", "shifted(family, numbers)"),
    "curves": ("curve_of(family, marked)",),
    "surplus": ("surplus(family, state)",),
    "serials": ("serial_of(family, tree)", "product_at(family, serial, most)"),
    "greatest": ("greatest_round(family, prices)", "greatest_prices(family)", "dearest_tree(family, state)",
                 "price_range(family)", "price_ceiling(family)"),
    "repetition": ("first_way(family, starts, goal, *, least=0)", "find_repetition(family)",
                   "repeat_part(family, tree, outer, inner, times)"),
    "counting": ("counts_by_size(family, state, most)", "tree_count(family, state)", "product_count(family)"),
    "ranking": ("trees_of_size(family, state, parts)", "least_by_size(family, state, most)",
                "first_products(family, *, many=10, most=8)"),
    "conflicts": ("conflicts_of(family, names, demands, budget)", "corrections_of(family, names, demands, budget)"),
    "certificates": ("certificate_of(family, names, demands, budget)", "least_certificate(family, names, demands)",
                     "is_sound(family, names, demands, budget, certificate)"),
    "comparison": ("change_family(first, second)", "only_in(first, second)", "price_change(first, second)",
                   "balance(first, second)", "first_changed(first, second)"),
    "versions": ("aligned(first, second)", "compare(first, second)", "first_change(first, second)",
                 "balanced(first, second)"),
    "demands": ("part_at(family, names, tree, path)", "satisfies(family, names, tree, demands)", "paths_of(demands)"),
    "special": ("specialised(family, names, demands)", "least_with(family, names, demands)",
                "first_with(family, names, demands)"),
    "explanations": ("is_feasible(family, names, demands, budget)",
                     "explanation_of(family, names, demands, demand, budget)",
                     "kept_of(family, names, demands, demand, budget)"),
    "choices": ("demand_of(catalogue, choice)",),
    "journals": ("replayed(catalogue, journal)",),
}

# For each class its module, its methods, and its properties.
CLASSES = {
    "Board": ("boards", ("__init__(self, family)", "reprice(self, variant, price)", "undo(self)", "cheapest(self)"),
              ("family", "weights", "changes")),
    "Walk": ("walks", ("__init__(self, family, most)", "step(self)", "take(self, many)"), ("given",)),
    "Catalogue": (
        "catalogues",
        ("__init__(self, definition)", "__len__(self)", "__iter__(self)", "__contains__(self, product)",
         "variants_of(self, component)", "number_of(self, component, values)", "product_of(self, tree)",
         "tree_of(self, product)", "price_of(self, product)", "bill(self, product)", "price_range(self)",
         "cheapest(self)", "cheapest_with(self, component, values)", "first_products(self, *, many=10, most=8)",
         "dead_components(self)", "core_components(self)", "product_count(self)", "price_table(self)"),
        ("definition", "family", "states", "variants", "slot_names"),
    ),
    "Configuration": (
        "configurations",
        ("__init__(self, catalogue)", "__len__(self)", "__iter__(self)", "__contains__(self, product)",
         "choose(self, path, name, value)", "retract(self, path, name)", "exchange(self, path, name, value)",
         "set_budget(self, budget)", "undo(self)", "offers(self, path, name)", "names_at(self, path)",
         "slots_at(self, path)", "witness(self, path, name, value)", "explanation(self, path, name, value)",
         "price_range(self)", "cheapest(self)", "product_count(self)", "first_products(self, *, many=10, most=8)"),
        ("catalogue", "choices", "demands", "budget", "changes", "journal"),
    ),
}


class TestInterface(unittest.TestCase):
    def test_all_modules(self):
        listed = set(INTERFACE) | {module for module, _, _ in CLASSES.values()} | {"errors"}
        # What is not part of the interface is one module that the others share.
        found = {path.stem for path in PACKAGE.glob("*.py")}
        self.assertEqual(found - listed, {"__init__", "families"})
        self.assertEqual(listed - found, set())

    def test_names_and_arguments(self):
        for module_name, functions in INTERFACE.items():
            module = importlib.import_module("slotwise." + module_name)
            for told in functions:
                name = told.partition("(")[0]
                function = getattr(module, name)
                self.assertTrue(inspect.isfunction(function), name)
                self.assertEqual(name + str(inspect.signature(function)), told)
                self.assertEqual(function.__module__, "slotwise." + module_name)

    def test_classes(self):
        for name, (module_name, methods, properties) in CLASSES.items():
            made = getattr(importlib.import_module("slotwise." + module_name), name)
            self.assertEqual(made.__module__, "slotwise." + module_name)
            public = {told for told in vars(made) if not told.startswith("_")}
            self.assertEqual(public, {told.partition("(")[0] for told in methods if told[0] != "_"} | set(properties))
            for told in methods:
                method = vars(made)[told.partition("(")[0]]
                self.assertEqual(method.__name__ + str(inspect.signature(method)), told)
            for told in properties:
                self.assertIsInstance(vars(made)[told], property)


if __name__ == "__main__":
    unittest.main()
