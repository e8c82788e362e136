"""Tests of slotwise/catalogues.py: points 340 and 341, with 60 to 64, 103, 105 and 240."""

import random
import unittest

from slotwise import errors
from slotwise.catalogues import Catalogue
from slotwise.definitions import check_definition
from slotwise.domains import port_states, variables_of
from slotwise.variants import family_of, slot_names_of, variants_of
from tests.helpers import (
    CABINET, CABINETS, LAMPS, RACKS, STANDS, all_products, definition_by_chance, in_order, is_plain, rank,
    row_definition, variable,
)

LARGE = (("stand", ("large",)), ("arm", (2, "large", "large")), ("bulb", ("large",)))
CHEAP = (("stand", ("small",)), ("bulb", ("small",)))
EXAMPLES = (LAMPS, CABINETS, RACKS)
NUMBER = ("n", ("range", 1, 2))
SPOT = (("spot", (NUMBER,)),)
NOT_A_CONDITION = ("not", ("number", 1))


def thing(name="thing", plug="spot", attributes=(), slots=(), rules=(), tables=(), charges=()):
    """A component."""
    return (name, plug, attributes, slots, rules, tables, 10, charges)


def ranges(*sizes):
    """Attributes with these numbers of values."""
    return tuple((f"a{number}", ("range", 0, size - 1)) for number, size in enumerate(sizes))


# Definitions that are not valid, each with the error and its attributes.
INVALID = (
    ((SPOT + SPOT, (thing(),), "spot"), errors.DuplicatePort, {"name": "spot"}),
    (((("spot", (NUMBER, NUMBER)),), (thing(),), "spot"), errors.DuplicateAttribute, {"name": "spot.n"}),
    (((("spot", (("n", ("range", 2, 1)),)),), (thing(),), "spot"), errors.EmptyRange, {"name": "spot.n"}),
    (((("spot", (("n", ("options", ("a", "a"))),)),), (thing(),), "spot"), errors.DuplicateOption, {"name": "spot.n"}),
    (((("spot", ranges(6, 6, 6)),), (thing(plug="gate"),), "spot"), errors.TooManyStates, {"count": 216}),
    ((SPOT, (thing(), thing()), "spot"), errors.DuplicateComponent, {"name": "thing"}),
    ((SPOT, (thing(plug="gate"),), "gone"), errors.UnknownPort, {"name": "gate"}),
    ((SPOT, (thing(attributes=(NUMBER, NUMBER)),), "spot"), errors.DuplicateAttribute, {"name": "thing.n"}),
    ((SPOT, (thing(attributes=(("x", ("range", 0, -1)),)),), "spot"), errors.EmptyRange, {"name": "thing.x"}),
    ((SPOT, (thing(attributes=(("x", ("options", ("b", "b"))),)),), "spot"), errors.DuplicateOption,
     {"name": "thing.x"}),
    ((SPOT, (thing(slots=(("s", "spot"), ("s", "spot"))),), "spot"), errors.DuplicateSlot, {"name": "thing.s"}),
    ((SPOT, (thing(slots=(("s", "hole"),)),), "spot"), errors.UnknownPort, {"name": "hole"}),
    ((SPOT, (thing(rules=(("true",), NOT_A_CONDITION)),), "spot"), errors.InvalidRule,
     {"component": "thing", "number": 1}),
    ((SPOT, (thing(rules=(variable("m"),)),), "spot"), errors.InvalidRule, {"component": "thing", "number": 0}),
    ((SPOT, (thing(rules=(variable("plug.n"),)),), "spot"), errors.InvalidRule, {"component": "thing", "number": 0}),
    ((SPOT, (thing(tables=((("n",), ((1,),)),)),), "spot"), errors.UnknownColumn,
     {"component": "thing", "number": 0, "name": "n"}),
    ((SPOT, (thing(tables=((("plug.n", "plug.n"), ((1, 1),)),)),), "spot"), errors.DuplicateColumn,
     {"component": "thing", "number": 0, "name": "plug.n"}),
    ((SPOT, (thing(charges=((NOT_A_CONDITION, 1),)),), "spot"), errors.InvalidCharge,
     {"component": "thing", "number": 0}),
    ((SPOT, (thing(),), "gone"), errors.UnknownPort, {"name": "gone"}),
    ((SPOT, (thing(attributes=ranges(6, 6, 6)),), "spot"), errors.TooManyAssignments, {"count": 432}),
)


class TestNewCatalogue(unittest.TestCase):
    def test_an_invalid_definition_is_refused(self):
        for definition, error, attributes in INVALID:
            for ask in (Catalogue, check_definition):
                with self.assertRaises(errors.SlotError) as caught:
                    ask(definition)
                self.assertIs(type(caught.exception), error)
                self.assertEqual(vars(caught.exception), attributes)
        self.assertEqual({error for _, error, _ in INVALID}, {
            errors.DuplicatePort, errors.DuplicateAttribute, errors.EmptyRange, errors.DuplicateOption,
            errors.TooManyStates, errors.DuplicateComponent, errors.UnknownPort, errors.DuplicateSlot,
            errors.InvalidRule, errors.UnknownColumn, errors.DuplicateColumn, errors.InvalidCharge,
            errors.TooManyAssignments,
        })

    def test_the_first_error_is_raised(self):
        with self.assertRaises(errors.DuplicateComponent) as caught:
            Catalogue((CABINETS[0], (CABINET, CABINET), "gate"))
        self.assertEqual(caught.exception.name, "cabinet")
        with self.assertRaises(errors.EmptyRange):
            Catalogue(((("niche", (("width", ("range", 1, 0)),)),), (CABINET,), "nowhere"))

    def test_properties(self):
        for definition in EXAMPLES:
            catalogue = Catalogue(definition)
            self.assertEqual(catalogue.definition, definition)
            self.assertEqual(catalogue.family, family_of(definition))
            self.assertEqual(catalogue.states, port_states(definition))
            self.assertEqual(catalogue.slot_names, slot_names_of(definition))
            expected = [(row[0], *variant) for row in definition[1] for variant in variants_of(definition, row[0])]
            self.assertEqual(catalogue.variants, tuple(expected))
            self.assertTrue(is_plain((catalogue.variants, catalogue.states, catalogue.slot_names)))
        self.assertEqual(Catalogue(LAMPS).family, STANDS)
        states = (("whole", ()), ("joint", ("small",)), ("joint", ("large",)), ("rail", ()))
        self.assertEqual(Catalogue(LAMPS).states, states)

    def test_length_and_iteration(self):
        for definition in EXAMPLES:
            catalogue = Catalogue(definition)
            self.assertEqual(len(catalogue), len(catalogue.variants))
            self.assertEqual(tuple(catalogue), catalogue.variants)
            self.assertEqual([row for row in catalogue], list(catalogue.variants))
        empty = Catalogue((SPOT, (thing(rules=(("false",),)),), "spot"))
        self.assertEqual((len(empty), tuple(empty), empty.variants), (0, (), ()))
        self.assertEqual(empty.family, (2, (0, 1), ()))

    def test_variants_of(self):
        for definition in EXAMPLES:
            catalogue = Catalogue(definition)
            for row in definition[1]:
                self.assertEqual(catalogue.variants_of(row[0]), variants_of(definition, row[0]))
        self.assertEqual(Catalogue(LAMPS).variants_of("adapter"), ((("large", "small"), 4),))
        for name in ("lamp", "Arm", "joint", "component"):
            with self.assertRaises(errors.UnknownComponent) as caught:
                Catalogue(LAMPS).variants_of(name)
            self.assertEqual(caught.exception.name, name)

    def test_number_of(self):
        for definition in EXAMPLES:
            catalogue = Catalogue(definition)
            for number, (component, values, _) in enumerate(catalogue):
                self.assertEqual(catalogue.number_of(component, values), number)
        lamps = Catalogue(LAMPS)
        self.assertEqual(lamps.number_of("bulb", ("large",)), 8)
        for component, values in (
            ("lamp", ("large",)), ("bulb", ("Large",)), ("bulb", ()), ("bulb", ("large", "large")), ("bulb", (0,)),
            ("arm", ("2", "large", "large")), ("arm", (2, "large", "small")), ("arm", (3, "large", "large")),
            ("clamp", ("large",)), ("stand", (1,) * 15), ("adapter", ("small", "small")),
        ):
            self.assertIsNone(lamps.number_of(component, values))
        self.assertEqual(lamps.number_of("clamp", ()), 9)


class TestProducts(unittest.TestCase):
    def test_products_and_trees(self):
        lamps = Catalogue(LAMPS)
        self.assertEqual(lamps.tree_of(LARGE), (1, 5, 8))
        self.assertEqual(lamps.product_of((1, 5, 8)), LARGE)
        for definition, most in ((LAMPS, 4), (RACKS, 5), (CABINETS, 1)):
            catalogue = Catalogue(definition)
            for tree in all_products(catalogue.family, most):
                product = catalogue.product_of(tree)
                self.assertTrue(is_plain(product))
                self.assertEqual(catalogue.tree_of(product), tree)
                self.assertIs(product in catalogue, True)
                self.assertEqual(catalogue.price_of(product), rank(catalogue.family, tree)[0])
                self.check_bill(catalogue, product)

    def check_bill(self, catalogue, product):
        """Check the bill by adding part after part."""
        rows = {}
        for part in product:
            price = catalogue.variants[catalogue.number_of(*part)][2]
            many, total = rows.get(part[0], (0, 0))
            rows[part[0]] = (many + 1, total + price)
        expected = [(row[0], *rows[row[0]]) for row in catalogue.definition[1] if row[0] in rows]
        self.assertEqual(catalogue.bill(product), tuple(expected))
        self.assertTrue(is_plain(catalogue.bill(product)))

    def test_examples(self):
        lamps = Catalogue(LAMPS)
        self.assertEqual(lamps.price_of(LARGE), 67)
        self.assertEqual(lamps.bill(LARGE), (("stand", 1, 35), ("arm", 1, 17), ("bulb", 1, 15)))
        self.assertIs(LARGE[:2] in lamps, False)

    def test_bills_in_the_order_of_the_definition(self):
        racks = Catalogue(RACKS)
        product = (("rack", ("small", "small")), ("lid", ("small",)), ("box", ("blue", "small", 1)), ("pin", (1,)))
        self.assertEqual(racks.bill(product), (("rack", 1, 10), ("box", 1, 7), ("lid", 1, 2), ("pin", 1, 3)))
        long = (("stand", ("small",)),) + (("arm", (2, "small", "small")), ("arm", (1, "small", "small"))) * 40
        long += (("bulb", ("small",)),)
        self.assertEqual(Catalogue(LAMPS).bill(long), (("stand", 1, 30), ("arm", 80, 40 * 29), ("bulb", 1, 6)))

    def test_what_is_no_product(self):
        lamps = Catalogue(LAMPS)
        stand, arm, bulb = LARGE
        for product in (
            (), (stand,), LARGE[:2], LARGE + (bulb,), LARGE[1:], (stand, bulb, arm), (("clamp", ()),),
            (stand, ("arm", (2, "large", "small")), bulb), (stand, ("arm", ("2", "large", "large")), bulb),
            (stand, ("arm", (3, "large", "large")), bulb), (stand, ("arm", (2, "large")), bulb),
            (stand, ("lamp", ("large",)), bulb), (stand, ("bulb", ("small",))), (("stand", ()), ("bulb", ("large",))),
            (("bulb", ("large",)),), (("stand", ("large",)), ("bulb", (1,) * 15)), (arm,) * 100,
        ):
            for ask in (lamps.tree_of, lamps.price_of, lamps.bill):
                self.assertRaises(errors.NotAProduct, ask, product)
            self.assertIs(product in lamps, False)

    def test_catalogues_without_products(self):
        empty = Catalogue(row_definition((1, 1), missing=True))
        for ask in (empty.tree_of, empty.price_of, empty.bill):
            self.assertRaises(errors.NotAProduct, ask, ())
            self.assertRaises(errors.NotAProduct, ask, (("c0", ()),))
        self.assertIs(() in empty, False)


class TestQuestions(unittest.TestCase):
    def test_price_range(self):
        self.assertEqual(Catalogue(LAMPS).price_range(), (36, None))
        self.assertEqual(Catalogue(CABINETS).price_range(), (200, 275))
        self.assertIsNone(Catalogue(row_definition((1, 1), missing=True)).price_range())

    def test_cheapest(self):
        self.assertEqual(Catalogue(LAMPS).cheapest(), CHEAP)
        self.assertEqual(Catalogue(CABINETS).cheapest(), (("cabinet", ("oak", 0, 88)),))
        self.assertIsNone(Catalogue(row_definition((1, 1), missing=True)).cheapest())

    def test_100_and_more_parts(self):
        hundred = Catalogue(row_definition((3, 2, 3, 2, 1)))
        self.assertEqual(len(hundred.cheapest()), 100)
        self.assertEqual(len(hundred.cheapest_with("c5", ())), 100)
        more = Catalogue(row_definition((3, 3, 3, 3)))
        for ask in (more.cheapest, lambda: more.cheapest_with("c4", ()), lambda: more.cheapest_with("c0", ())):
            with self.assertRaises(errors.TooManyParts) as caught:
                ask()
            self.assertEqual(caught.exception.count, 1 + 3 + 9 + 27 + 81)
        self.assertEqual(more.price_range(), (121, 121))

    def test_cheapest_with(self):
        lamps = Catalogue(LAMPS)
        found = lamps.cheapest_with("arm", (("length", 2), ("plug.size", "large")))
        self.assertEqual(lamps.tree_of(found), (1, 5, 6, 7))
        self.assertEqual(lamps.tree_of(lamps.cheapest_with("arm", ())), (0, 2, 7))
        self.assertEqual(lamps.cheapest_with("stand", ()), CHEAP)
        self.assertEqual(lamps.tree_of(lamps.cheapest_with("stand", (("top.size", "large"),))), (1, 6, 7))
        self.assertIsNone(lamps.cheapest_with("clamp", ()))
        self.assertIsNone(lamps.cheapest_with("arm", (("length", 3),)))
        self.assertIsNone(lamps.cheapest_with("arm", (("length", "2"),)))
        self.assertIsNone(lamps.cheapest_with("adapter", (("plug.size", "small"),)))
        self.assertIsNone(Catalogue(row_definition((1, 1), missing=True)).cheapest_with("c0", ()))

    def test_cheapest_with_pairs_that_agree_or_contradict(self):
        lamps = Catalogue(LAMPS)
        twice = (("length", 2), ("plug.size", "small"), ("length", 2))
        self.assertEqual(lamps.tree_of(lamps.cheapest_with("arm", twice)), (0, 4, 7))
        self.assertEqual(lamps.tree_of(lamps.cheapest_with("arm", twice * 5)), (0, 4, 7))
        self.assertIsNone(lamps.cheapest_with("arm", twice + (("length", 1),)))
        # The two ends of an arm have the same size.
        self.assertIsNone(lamps.cheapest_with("arm", (("plug.size", "small"), ("end.size", "large"))))

    def test_cheapest_with_names_that_do_not_exist(self):
        lamps = Catalogue(LAMPS)
        for component in ("lamp", "Arm", "joint"):
            with self.assertRaises(errors.UnknownComponent) as caught:
                lamps.cheapest_with(component, (("weight", 1),))
            self.assertEqual(caught.exception.name, component)
        for values, name in (
            ((("weight", 1),), "weight"), ((("length", 2), ("top.size", "small"), ("weight", 1)), "top.size"),
            ((("length", 1), ("length", 2), ("size", "small")), "size"), ((("plug.length", 1), ("x", 1)), "plug.length"),
        ):
            with self.assertRaises(errors.UnknownVariable) as caught:
                lamps.cheapest_with("arm", values)
            self.assertEqual(caught.exception.name, name)
        with self.assertRaises(errors.UnknownVariable):
            lamps.cheapest_with("clamp", (("length", 1),))

    def test_dead_and_core_components(self):
        lamps = Catalogue(LAMPS)
        self.assertEqual(lamps.dead_components(), ("clamp",))
        self.assertEqual(lamps.core_components(), ("stand", "bulb"))
        racks = Catalogue(RACKS)
        self.assertEqual(racks.dead_components(), ("spare",))
        self.assertEqual(racks.core_components(), ())
        self.assertEqual(Catalogue(CABINETS).dead_components(), ())
        self.assertEqual(Catalogue(CABINETS).core_components(), ("cabinet",))

    def test_dead_and_core_components_without_products(self):
        empty = Catalogue(row_definition((1, 1), missing=True))
        self.assertEqual(empty.dead_components(), ("c0", "c1"))
        self.assertEqual(empty.core_components(), ())
        nothing = Catalogue((SPOT, (thing(rules=(("false",),)), thing("other", rules=(("false",),))), "spot"))
        self.assertEqual(nothing.dead_components(), ("thing", "other"))
        self.assertEqual(nothing.core_components(), ())

    def test_core_components_in_rows(self):
        catalogue = Catalogue(row_definition((2, 1, 3)))
        self.assertEqual(catalogue.core_components(), ("c0", "c1", "c2", "c3"))
        self.assertEqual(catalogue.dead_components(), ())

    def test_product_count(self):
        self.assertIsNone(Catalogue(LAMPS).product_count())
        self.assertEqual(Catalogue(CABINETS).product_count(), 7)
        self.assertEqual(Catalogue(RACKS).product_count(), len(all_products(Catalogue(RACKS).family, 7)))
        self.assertEqual(Catalogue(row_definition((1, 1), missing=True)).product_count(), 0)

    def test_too_many_trees(self):
        ports = (("first", ()), ("second", ()), ("third", ()), ("fourth", ()), ("fifth", ()))
        slots = [tuple((name, ports[at + 1][0]) for name in "abc") for at in range(4)]
        rows = [thing(f"c{at}", ports[at][0], slots=slots[at]) for at in range(4)]
        rows.append(thing("c4", "fifth", attributes=ranges(6)))
        catalogue = Catalogue((ports, tuple(rows), "first"))
        self.assertRaises(errors.TooManyTrees, catalogue.product_count)
        self.assertEqual(Catalogue((ports, tuple(rows), "second")).product_count(), 6 ** 27)

    def test_first_products(self):
        lamps = Catalogue(LAMPS)
        ordered = [lamps.product_of(tree) for tree in in_order(STANDS, all_products(STANDS, 8))]
        self.assertEqual(lamps.first_products(), tuple(ordered[:10]))
        self.assertEqual(lamps.first_products(many=25), tuple(ordered[:25]))
        self.assertEqual(lamps.first_products(many=2, most=2), (CHEAP, (("stand", ("large",)), ("bulb", ("large",)))))
        self.assertEqual(lamps.first_products(most=1), ())
        self.assertEqual(len(Catalogue(CABINETS).first_products(many=60, most=10)), 7)
        self.assertEqual(Catalogue(row_definition((1, 1), missing=True)).first_products(), ())
        self.assertRaises(TypeError, lamps.first_products, 3)

    def test_price_table(self):
        self.assertEqual(
            Catalogue(LAMPS).price_table(),
            (("whole", (), 36), ("joint", ("small",), 6), ("joint", ("large",), 10), ("rail", (), 1)),
        )
        # Only the port states at which there is a tree.
        self.assertEqual(Catalogue(CABINETS).price_table(), (("niche", (88,), 200), ("niche", (90,), 215)))
        self.assertEqual(Catalogue(row_definition((1, 1), missing=True)).price_table(), ())

    def test_against_all_products(self):
        chance = random.Random(131)
        some = without = 0
        for _ in range(150):
            catalogue = Catalogue(definition_by_chance(chance))
            family = catalogue.family
            products = [catalogue.product_of(tree) for tree in in_order(family, all_products(family, 15))]
            prices = [catalogue.price_of(product) for product in products]
            names = [row[0] for row in catalogue.definition[1]]
            self.assertEqual(catalogue.price_range(), (min(prices), max(prices)) if prices else None)
            self.assertEqual(catalogue.cheapest(), products[0] if products else None)
            self.assertEqual(catalogue.product_count(), len(products))
            self.assertEqual(catalogue.first_products(many=60, most=10), tuple(
                [product for product in products if len(product) <= 10][:60]
            ))
            had = [{part[0] for part in product} for product in products]
            dead = tuple(name for name in names if not any(name in parts for parts in had))
            core = tuple(name for name in names if had and all(name in parts for parts in had))
            self.assertEqual((catalogue.dead_components(), catalogue.core_components()), (dead, core))
            for name in names:
                self.check_cheapest_with(catalogue, products, name, chance)
            some += bool(products)
            without += not products
        self.assertGreater(some, 60)
        self.assertGreater(without, 10)

    def check_cheapest_with(self, catalogue, products, name, chance):
        """Check the first product with a part of the component that has some values by chance."""
        variables = variables_of(catalogue.definition, name)
        columns = [column for column, _ in variables]
        values = tuple((column, chance.choice(domain)) for column, domain in variables if chance.random() < 0.4)
        wanted = [
            product for product in products
            if any(
                part[0] == name and all(part[1][columns.index(column)] == value for column, value in values)
                for part in product
            )
        ]
        self.assertEqual(catalogue.cheapest_with(name, values), wanted[0] if wanted else None)


class TestArgumentsAlone(unittest.TestCase):
    def test_several_catalogues(self):
        lamps = Catalogue(LAMPS)
        racks = Catalogue(RACKS)
        self.assertEqual(lamps.variants, Catalogue(LAMPS).variants)
        self.assertNotEqual(lamps.variants, racks.variants)
        for _ in range(2):
            self.assertEqual(lamps.tree_of(LARGE), (1, 5, 8))
            self.assertEqual(lamps.dead_components(), ("clamp",))
            self.assertEqual(racks.dead_components(), ("spare",))
            self.assertEqual(lamps.cheapest(), CHEAP)
            self.assertEqual(racks.cheapest(), (("single", ("small",)), ("lid", ("small",))))

    def test_questions_and_errors_change_nothing(self):
        lamps = Catalogue(LAMPS)
        for _ in range(2):
            self.assertRaises(errors.UnknownComponent, lamps.variants_of, "lamp")
            self.assertRaises(errors.UnknownVariable, lamps.cheapest_with, "arm", (("x", 1),))
            self.assertRaises(errors.NotAProduct, lamps.bill, ())
            self.assertEqual((lamps.definition, lamps.family), (LAMPS, STANDS))
            self.assertEqual(lamps.core_components(), ("stand", "bulb"))
            self.assertEqual(len(lamps), 10)


if __name__ == "__main__":
    unittest.main()
