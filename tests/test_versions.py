"""Tests of slotwise/versions.py: points 342 and 343, with 320 to 322 and 340."""

import random
import unittest

from slotwise import errors
from slotwise.catalogues import Catalogue
from slotwise.comparison import balance, first_changed, only_in, price_change
from slotwise.domains import port_states, variables_of
from slotwise.reader import read_condition
from slotwise.versions import aligned, balanced, compare, first_change
from tests.helpers import (
    CABINETS, LAMPS, RACKS, all_products, condition_by_chance, definition_by_chance, in_order, is_plain, rank,
    row_definition,
)

ASKS = (aligned, compare, first_change, balanced)
PORTS, COMPONENTS, PRODUCT = LAMPS
STAND, ARM, ADAPTER, BULB, CLAMP = COMPONENTS
SPOT = ("spot", "joint", (), (), (read_condition('plug.size = "small"'),), (), 20, ())
SHORT = ARM[:4] + (ARM[4] + (read_condition("length = 1"),),) + (ARM[5], 11, ARM[7])
LAMP = Catalogue(LAMPS)
OTHER = Catalogue((PORTS, (STAND, SHORT, SPOT, ADAPTER, BULB, CLAMP), PRODUCT))


def with_component(number, *, price=None, rules=None, charges=None, plug=None, attributes=None, slots=None, name=None):
    """The lamp stands with another one of their components."""
    given = (name, plug, attributes, slots, rules, None, price, charges)
    row = tuple(old if new is None else new for old, new in zip(COMPONENTS[number], given))
    return Catalogue((PORTS, COMPONENTS[:number] + (row,) + COMPONENTS[number + 1:], PRODUCT))


def with_parts(*components, ports=PORTS, product=PRODUCT):
    """A catalogue of these components."""
    return Catalogue((ports, components, product))


def told_alignment(first, second):
    """The aligned families by the words of point 343."""
    definitions = {}
    for catalogue in (first, second):
        for row in catalogue.definition[1]:
            definitions.setdefault(row[0], catalogue.definition)
    pairs = []
    for name, definition in definitions.items():
        domains = [values for _, values in variables_of(definition, name)]
        had = {values for catalogue in (first, second) for other, values, _ in catalogue if other == name}
        pairs.extend((name, values) for values in sorted(
            had, key=lambda values: [domain.index(value) for domain, value in zip(domains, values)]
        ))
    states = port_states(first.definition)
    families = []
    for catalogue in (first, second):
        prices = {(name, values): price for name, values, price in catalogue}
        rows = []
        for name, values in pairs:
            row = next(row for row in definitions[name][1] if row[0] == name)
            told = dict(zip([variable for variable, _ in variables_of(definitions[name], name)], values))
            attributes = dict(first.definition[0])

            def state_at(prefix, port):
                inside = tuple(told[f"{prefix}.{attribute}"] for attribute, _ in attributes[port])
                return states.index((port, inside))

            slots = tuple(state_at(slot, port) for slot, port in row[3])
            rows.append((state_at("plug", row[1]), slots, prices.get((name, values))))
        roots = tuple(number for number, state in enumerate(states) if state[0] == first.definition[2])
        families.append((len(states), roots, tuple(rows)))
    return (families[0], families[1], tuple(pairs))


def version_by_chance(definition, chance):
    """A compatible definition: components in another order, without some of them, with other rules and prices."""
    ports, components, product = definition
    often = chance.choice((0.03, 0.1, 0.3))
    rows = []
    for name, plug, attributes, slots, rules, tables, price, charges in components:
        names = [f"plug.{attribute}" for attribute, _ in dict(ports)[plug]] + [f"{slot}.size" for slot, _ in slots]
        if chance.random() < often and names:
            rules = (condition_by_chance(names, chance),) if chance.random() < 0.6 else ()
        if chance.random() < often:
            price = chance.randint(0, 4)
        if chance.random() < often and names:
            charges = ((condition_by_chance(names, chance), chance.randint(0, 3)),)
        if chance.random() < 0.9:
            rows.append((name, plug, attributes, slots, rules, tables, price, charges))
    if chance.random() < 0.5:
        chance.shuffle(rows)
    return (ports, tuple(rows or components), product)


class TestAligned(unittest.TestCase):
    def test_the_same_catalogue(self):
        for definition in (LAMPS, CABINETS, RACKS):
            first, second = Catalogue(definition), Catalogue(definition)
            pairs = tuple((name, values) for name, values, _ in first)
            self.assertEqual(aligned(first, second), (first.family, second.family, pairs))
            self.assertEqual(aligned(first, first), (first.family, first.family, pairs))

    def test_the_order_of_the_variants(self):
        one, other, pairs = aligned(LAMP, OTHER)
        names = [name for name, _ in pairs]
        self.assertEqual(names, ["stand"] * 2 + ["arm"] * 4 + ["adapter"] + ["bulb"] * 2 + ["clamp", "spot"])
        arms = tuple(("arm", (length, size, size)) for length in (1, 2) for size in ("small", "large"))
        self.assertEqual(pairs[2:6], arms)
        self.assertEqual(one[2][:10], LAMP.family[2])
        self.assertEqual(one[2][10], (1, (), None))
        self.assertEqual([row[2] for row in other[2]], [30, 35, 11, 11, None, None, 4, 6, 15, 1, 20])
        self.assertEqual([row[:2] for row in one[2]], [row[:2] for row in other[2]])
        self.assertEqual((one[0], one[1]), (4, (0,)))

    def test_the_other_direction(self):
        one, other, pairs = aligned(OTHER, LAMP)
        names = [name for name, _ in pairs]
        # Now the components stand in the order of the other catalogue, in which the spot is behind the arm.
        self.assertEqual(names, ["stand"] * 2 + ["arm"] * 4 + ["spot"] + ["adapter"] + ["bulb"] * 2 + ["clamp"])
        self.assertEqual([row[2] for row in one[2]], [30, 35, 11, 11, None, None, 20, 4, 6, 15, 1])
        self.assertEqual([row[2] for row in other[2]], [30, 35, 12, 12, 17, 17, None, 4, 6, 15, 1])

    def test_variants_that_only_one_of_two_components_has(self):
        small = with_component(3, rules=(read_condition('plug.size = "small"'),))
        large = with_component(3, rules=(read_condition('plug.size = "large"'),))
        for first, second, prices in ((small, large, ((6, None), (None, 15))), (large, small, ((None, 15), (6, None)))):
            one, other, pairs = aligned(first, second)
            # The assignments stand in their order, whichever catalogue has them.
            self.assertEqual(pairs[7:9], (("bulb", ("small",)), ("bulb", ("large",))))
            self.assertEqual(tuple(row[2] for row in one[2][7:9]), prices[0])
            self.assertEqual(tuple(row[2] for row in other[2][7:9]), prices[1])

    def test_components_in_another_order(self):
        turned = with_parts(*COMPONENTS[::-1])
        one, other, pairs = aligned(LAMP, turned)
        self.assertEqual(pairs, tuple((name, values) for name, values, _ in LAMP))
        self.assertEqual(one, other)
        one, other, pairs = aligned(turned, LAMP)
        self.assertEqual(pairs, tuple((name, values) for name, values, _ in turned))
        self.assertEqual(one, turned.family)

    def test_no_component_in_common(self):
        first, second = with_parts(STAND, BULB), with_parts(ARM, CLAMP)
        one, other, pairs = aligned(first, second)
        self.assertEqual([name for name, _ in pairs], ["stand"] * 2 + ["bulb"] * 2 + ["arm"] * 4 + ["clamp"])
        self.assertEqual([row[2] for row in one[2]], [30, 35, 6, 15] + [None] * 5)
        self.assertEqual([row[2] for row in other[2]], [None] * 4 + [12, 12, 17, 17, 1])

    def test_against_the_words_of_the_document(self):
        self.assertEqual(aligned(LAMP, OTHER), told_alignment(LAMP, OTHER))
        self.assertEqual(aligned(OTHER, LAMP), told_alignment(OTHER, LAMP))
        chance = random.Random(141)
        for _ in range(100):
            definition = definition_by_chance(chance)
            first = Catalogue(version_by_chance(definition, chance))
            second = Catalogue(version_by_chance(definition, chance))
            self.assertEqual(aligned(first, second), told_alignment(first, second))
            self.assertTrue(is_plain(aligned(first, second)))


class TestIncompatible(unittest.TestCase):
    def check_reason(self, reason, first, second):
        """Check that the catalogues are not compatible, whatever is asked."""
        for ask in ASKS:
            with self.assertRaises(errors.Incompatible) as caught:
                ask(first, second)
            self.assertEqual(caught.exception.reason, reason)

    def test_port_kinds(self):
        more = with_parts(*COMPONENTS, ports=PORTS + (("hook", ()),))
        self.check_reason(("ports",), LAMP, more)
        self.check_reason(("ports",), more, LAMP)
        self.check_reason(("ports",), LAMP, with_parts(*COMPONENTS, ports=PORTS[::-1]))
        sizes = ("size", ("options", ("small", "large", "huge")))
        self.check_reason(("ports",), LAMP, with_parts(*COMPONENTS, ports=(PORTS[0], ("joint", (sizes,)), PORTS[2])))

    def test_the_port_kind_of_the_products(self):
        self.check_reason(("product",), LAMP, with_parts(*COMPONENTS, product="joint"))
        self.check_reason(("product",), with_parts(*COMPONENTS, product="rail"), LAMP)

    def test_components(self):
        self.check_reason(("component", "clamp"), LAMP, with_component(4, plug="joint"))
        self.check_reason(("component", "bulb"), LAMP, with_component(3, attributes=(("watt", ("range", 1, 2)),)))
        self.check_reason(("component", "arm"), LAMP, with_component(1, attributes=(("length", ("range", 1, 3)),)))
        self.check_reason(("component", "clamp"), LAMP, with_component(4, slots=(("on", "rail"),)))
        hook = with_parts(STAND, ARM, ADAPTER, BULB, CLAMP[:3] + ((("on", "rail"),),) + CLAMP[4:])
        self.check_reason(("component", "clamp"), LAMP, hook)
        self.check_reason(("component", "clamp"), hook, with_component(4, slots=(("off", "rail"),)))
        self.check_reason(("component", "clamp"), hook, with_component(4, slots=(("on", "joint"),)))

    def test_the_first_component_of_the_first_catalogue(self):
        turned = (CLAMP[:1] + ("joint",) + CLAMP[2:], BULB[:1] + ("rail",) + BULB[2:4] + ((), (), 0, ()))
        both = with_parts(*turned, STAND, ARM, ADAPTER)
        self.check_reason(("component", "bulb"), LAMP, both)
        self.check_reason(("component", "clamp"), both, LAMP)

    def test_several_reasons(self):
        more = PORTS + (("hook", ()),)
        clamp = CLAMP[:1] + ("whole",) + CLAMP[2:]
        self.check_reason(("ports",), LAMP, with_parts(clamp, ports=more, product="hook"))
        self.check_reason(("ports",), LAMP, with_parts(clamp, ports=more))
        self.check_reason(("product",), LAMP, with_parts(clamp, product="joint"))
        self.check_reason(("component", "clamp"), LAMP, with_parts(clamp))

    def test_what_may_differ(self):
        for other in (
            OTHER, with_parts(CLAMP), with_parts(*COMPONENTS[::-1]), with_component(3, price=0),
            with_component(1, rules=()), with_component(3, charges=()), with_component(4, name="other", plug="joint"),
            with_component(3, rules=(("false",),)),
        ):
            for ask in ASKS:
                ask(LAMP, other)
                ask(other, LAMP)

    def test_incompatible_comes_before_too_many_parts(self):
        row = row_definition((3, 3, 3, 3))
        self.check_reason(("product",), Catalogue(row), Catalogue(row[:2] + ("second",)))
        self.check_reason(("ports",), Catalogue(row), LAMP)


class TestCompare(unittest.TestCase):
    def test_examples(self):
        self.assertEqual(compare(LAMP, OTHER), (
            (("stand", ("small",)), ("arm", (2, "small", "small")), ("bulb", ("small",))),
            (("stand", ("small",)), ("spot", ("small",))),
            (None, 0),
        ))

    def test_the_other_direction(self):
        one, other, change = compare(LAMP, OTHER)
        self.assertEqual(compare(OTHER, LAMP), (other, one, (0, None)))

    def test_nothing_has_changed(self):
        self.assertEqual(compare(LAMP, LAMP), (None, None, (0, 0)))
        self.assertEqual(compare(LAMP, with_parts(*COMPONENTS[::-1])), (None, None, (0, 0)))

    def test_no_common_product(self):
        small = with_component(0, rules=(read_condition('top.size = "small"'),))
        large = with_component(0, rules=(read_condition('top.size = "large"'),))
        self.assertEqual(compare(small, large), (
            (("stand", ("small",)), ("bulb", ("small",))),
            (("stand", ("large",)), ("adapter", ("large", "small")), ("bulb", ("small",))),
            None,
        ))

    def test_no_products_at_all(self):
        empty = Catalogue(row_definition((1, 1), missing=True))
        self.assertEqual(compare(empty, empty), (None, None, None))
        full = Catalogue(row_definition((1, 1)))
        self.assertEqual(compare(empty, full), (None, full.cheapest(), None))
        self.assertEqual(compare(full, empty), (full.cheapest(), None, None))

    def test_ties_are_decided_by_the_aligned_families(self):
        ports = (("base", ()),)
        one, other, third = [(name, "base", (), (), (), (), 5, ()) for name in ("one", "other", "third")]
        first, second = Catalogue((ports, (third,), "base")), Catalogue((ports, (other, one, third), "base"))
        self.assertEqual(compare(first, second)[:2], (None, (("other", ()),)))
        self.assertEqual(compare(second, first)[:2], ((("other", ()),), None))
        # A component that both catalogues have stands before those that only the second one has.
        never = one[:4] + ((("false",),),) + one[5:]
        first = Catalogue((ports, (third, never), "base"))
        self.assertEqual(compare(first, second)[:2], (None, (("one", ()),)))
        self.assertEqual(compare(second, first)[:2], ((("other", ()),), None))

    def test_too_many_parts(self):
        ports, components, product = row_definition((3, 3, 3, 3))
        leaf = ("leaf", "first", (), (), (), (), 10 ** 6, ())
        more = Catalogue((ports, components + (leaf,), product))
        less = Catalogue((ports, (leaf,) + components[1:], product))
        for first, second in ((more, less), (less, more)):
            with self.assertRaises(errors.TooManyParts) as caught:
                compare(first, second)
            self.assertEqual(caught.exception.count, 121)
        self.assertEqual(compare(more, more), (None, None, (0, 0)))
        self.assertEqual(compare(less, less), (None, None, (0, 0)))

    def test_the_first_one_of_two_products_with_too_many_parts(self):
        ports, components, _ = row_definition((3, 3, 3, 3))
        longer = (("zero", ()),) + ports[:5]
        top = ("top", "zero", (), (("on", "first"),), (), (), 1, ())
        both = ("both", "zero", (), (("on", "first"), ("at", "first")), (), (), 1, ())
        first = Catalogue((longer, (top,) + components, "zero"))
        second = Catalogue((longer, (both,) + components, "zero"))
        for one, other, count in ((first, second, 122), (second, first, 243)):
            with self.assertRaises(errors.TooManyParts) as caught:
                compare(one, other)
            self.assertEqual(caught.exception.count, count)

    def test_against_all_products(self):
        chance = random.Random(142)
        kinds = {"only": 0, "changed": 0, "same": 0}
        for _ in range(250):
            definition = definition_by_chance(chance)
            first = Catalogue(version_by_chance(definition, chance))
            second = Catalogue(version_by_chance(definition, chance))
            one, other, pairs = aligned(first, second)

            def by_names(tree):
                return tuple(pairs[number] for number in tree)

            ordered = [by_names(tree) for tree in in_order(one, all_products(one, 15))]
            turned = [by_names(tree) for tree in in_order(other, all_products(other, 15))]
            self.assertEqual(set(ordered), {first.product_of(tree) for tree in all_products(first.family, 15)})
            only_first = [product for product in ordered if product not in second]
            only_second = [product for product in turned if product not in first]
            common = [product for product in ordered if product in second]
            changes = [second.price_of(product) - first.price_of(product) for product in common]
            change = (min(changes), max(changes)) if changes else None
            found = compare(first, second)
            self.assertEqual(found, (
                only_first[0] if only_first else None, only_second[0] if only_second else None, change,
            ))
            self.assertTrue(is_plain(found))
            changed = [product for product, difference in zip(common, changes) if difference != 0]
            self.assertEqual(first_change(first, second), changed[0] if changed else None)
            self.assertEqual(balanced(first, second) is None, bool(changed))
            kinds["only"] += bool(only_first and only_second)
            kinds["changed"] += bool(changed)
            kinds["same"] += bool(common) and not changed
        self.assertGreater(min(kinds.values()), 20)


class TestFirstChange(unittest.TestCase):
    def test_examples(self):
        expected = (("stand", ("small",)), ("arm", (1, "small", "small")), ("bulb", ("small",)))
        self.assertEqual(first_change(LAMP, OTHER), expected)
        self.assertEqual(first_change(OTHER, LAMP), expected)

    def test_nothing_has_changed(self):
        self.assertIsNone(first_change(LAMP, LAMP))
        moved = with_component(3, price=8), with_component(0, price=28)
        self.assertIsNotNone(first_change(LAMP, moved[0]))
        both = with_parts(moved[1].definition[1][0], ARM, ADAPTER, moved[0].definition[1][3], CLAMP)
        self.assertIsNone(first_change(LAMP, both))
        self.assertIsNone(first_change(LAMP, with_component(4, price=99)))

    def test_charges(self):
        dearer = with_component(3, charges=((read_condition('plug.size = "large"'), 10),))
        self.assertEqual(first_change(LAMP, dearer), (("stand", ("large",)), ("bulb", ("large",))))

    def test_too_many_parts(self):
        ports, components, product = row_definition((3, 3, 3, 3))
        dear = components[:4] + (components[4][:6] + (2,) + components[4][7:],)
        with self.assertRaises(errors.TooManyParts) as caught:
            first_change(Catalogue((ports, components, product)), Catalogue((ports, dear, product)))
        self.assertEqual(caught.exception.count, 121)


class TestBalanced(unittest.TestCase):
    def test_examples(self):
        self.assertIsNone(balanced(LAMP, OTHER))

    def test_the_same_catalogue(self):
        joints = (("joint", ("small",), 0), ("joint", ("large",), 0))
        self.assertEqual(balanced(LAMP, LAMP), (("whole", (), 0),) + joints)

    def test_moved_prices(self):
        moved = with_parts(
            STAND[:6] + (28,) + STAND[7:], ARM, ADAPTER, BULB[:6] + (8,) + BULB[7:], CLAMP[:6] + (9,) + CLAMP[7:]
        )
        expected = (("whole", (), 0), ("joint", ("small",), 2), ("joint", ("large",), 2))
        self.assertEqual(balanced(LAMP, moved), expected)
        self.assertEqual(balanced(moved, LAMP), tuple(row[:2] + (-row[2],) for row in expected))

    def test_no_common_product(self):
        self.assertEqual(balanced(LAMP, with_parts(CLAMP, BULB)), ())
        empty = Catalogue(row_definition((1, 1), missing=True))
        self.assertEqual(balanced(empty, empty), ())

    def test_states_that_no_common_product_has(self):
        small = with_component(0, rules=(read_condition('top.size = "small"'),))
        self.assertEqual(balanced(LAMP, small), (("whole", (), 0), ("joint", ("small",), 0)))

    def test_too_many_parts_do_not_matter(self):
        row = Catalogue(row_definition((3, 3, 3, 3)))
        expected = tuple((port, (), 0) for port in ("first", "second", "third", "fourth", "fifth"))
        self.assertEqual(balanced(row, row), expected)


class TestArgumentsAlone(unittest.TestCase):
    def test_as_the_functions_of_comparison(self):
        one, other, pairs = aligned(LAMP, OTHER)
        by_names = [tuple(pairs[number] for number in tree) for tree in (only_in(one, other), only_in(other, one))]
        self.assertEqual(compare(LAMP, OTHER), (*by_names, price_change(one, other)))
        self.assertEqual(first_change(LAMP, OTHER), tuple(pairs[number] for number in first_changed(one, other)))
        self.assertIsNone(balance(one, other))
        self.assertEqual(rank(one, first_changed(one, other))[0], 48)

    def test_one_pair_after_another(self):
        for ask in ASKS:
            first, second = ask(LAMP, OTHER), ask(LAMP, LAMP)
            self.assertEqual(ask(LAMP, OTHER), first)
            self.assertEqual(ask(LAMP, LAMP), second)
            self.assertNotEqual(first, second)
        self.assertEqual(LAMP.variants, Catalogue(LAMPS).variants)


if __name__ == "__main__":
    unittest.main()
