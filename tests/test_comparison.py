"""Tests of slotwise/comparison.py: points 320 to 322, with 103, 105 and 181."""

import random
import unittest

from slotwise.comparison import balance, change_family, first_changed, only_in, price_change
from slotwise.errors import TooManyParts
from slotwise.least import cheapest
from slotwise.normal import shifted
from slotwise.trees import is_product, price_of
from tests.helpers import (
    EMPTY_SLOTS, FIXED, FORKS, LONG_ROW_PARTS, NOTHING, STANDS, all_products, check_independent, families_by_chance,
    finite_family_by_chance, in_order, is_plain, long_row, row_of_100, row_of_101, trees_by_size,
)

ASKS = (change_family, only_in, price_change, balance, first_changed)


def with_prices(family, prices):
    """The family with these prices of its variants."""
    return family[:2] + (tuple((plug, slots, price) for (plug, slots, _), price in zip(family[2], prices)),)


def changed_by(family, changes):
    """The family with prices that are changed by these numbers; None makes a variant missing."""
    prices = [
        None if price is None or change is None else price + change
        for (_, _, price), change in zip(family[2], changes)
    ]
    return with_prices(family, prices)


MOVED = with_prices(STANDS, (28, 33, 12, 12, 17, 17, 4, 8, 17, 9))
DEAR = with_prices(STANDS, (30, 37, None, 13, 17, 17, 4, 6, 15, 1))


def is_common(first, second, tree):
    """Whether the tree consists of common variants."""
    return all(family[2][number][2] is not None for family in (first, second) for number in tree)


def told_balance(first, second, most):
    """The balance by all common trees with at most `most` parts, or None."""
    change = change_family(first, second)
    products = all_products(change, most)
    if any(price_of(change, tree) != 0 for tree in products):
        return None
    had = {change[2][number][0] for tree in products for number in tree}
    found = trees_by_size(change, most)
    table = []
    for state in range(first[0]):
        changes = {price_of(change, tree) for trees in found[state] for tree in trees}
        assert state not in had or len(changes) == 1
        table.append(changes.pop() if state in had else None)
    return tuple(table)


def version_by_chance(family, chance):
    """A comparable family: shifted, and with some prices changed or variants missing."""
    numbers = tuple(0 if state in family[1] else chance.randint(-2, 2) for state in range(family[0]))
    moved = shifted(family, numbers) if chance.random() < 0.7 else family
    prices = [price for _, _, price in moved[2]]
    for _ in range(chance.choice((0, 0, 1, 1, 2, 4))):
        prices[chance.randrange(len(prices))] = chance.choice((None, 0, 1, 5))
    return with_prices(moved, prices)


class TestCase(unittest.TestCase):
    def check_count(self, count, ask, *arguments):
        """Check that the product that would be returned has so many parts."""
        with self.assertRaises(TooManyParts) as caught:
            ask(*arguments)
        self.assertEqual(caught.exception.count, count)


class TestChangeFamily(TestCase):
    def test_changes(self):
        changes = (-2, -2, 0, 0, 0, 0, 0, 2, 2, 8)
        self.assertEqual(change_family(STANDS, MOVED), with_prices(STANDS, changes))
        self.assertEqual(change_family(MOVED, STANDS), with_prices(STANDS, [-change for change in changes]))
        self.assertEqual(change_family(STANDS, STANDS), with_prices(STANDS, (0,) * 10))

    def test_missing_variants(self):
        first = (2, (0,), ((0, (), None), (0, (1,), 4), (1, (), None), (1, (0, 1), 7)))
        second = (2, (0,), ((0, (), 3), (0, (1,), None), (1, (), None), (1, (0, 1), -2)))
        expected = (2, (0,), ((0, (), None), (0, (1,), None), (1, (), None), (1, (0, 1), -9)))
        self.assertEqual(change_family(first, second), expected)

    def test_no_variants_and_large_prices(self):
        self.assertEqual(change_family(NOTHING, NOTHING), NOTHING)
        large = 10 ** 40 - 1
        self.assertEqual(change_family((1, (), ((0, (), large),)), (1, (), ((0, (), -large),)))[2][0][2], -2 * large)


class TestOnlyIn(TestCase):
    def test_examples(self):
        self.assertEqual(only_in(STANDS, DEAR), (0, 2, 7))
        self.assertIsNone(only_in(DEAR, STANDS))

    def test_the_same_variants(self):
        for family in (STANDS, FORKS, FIXED, NOTHING, EMPTY_SLOTS):
            self.assertIsNone(only_in(family, family))
        self.assertIsNone(only_in(STANDS, MOVED))

    def test_everything_is_missing(self):
        nothing = with_prices(STANDS, (None,) * 10)
        self.assertEqual(only_in(STANDS, nothing), (0, 7))
        self.assertIsNone(only_in(nothing, STANDS))
        self.assertIsNone(only_in(nothing, nothing))

    def test_a_variant_missing_in_both(self):
        first = with_prices(STANDS, (30, 35, 12, 12, 17, 17, 4, None, 15, 1))
        self.assertIsNone(only_in(first, with_prices(first, (30, 35, 12, 12, 17, 17, 4, None, 15, None))))
        self.assertEqual(only_in(STANDS, first), (0, 7))

    def test_the_order_of_the_first_family_counts(self):
        second = with_prices(STANDS, (1, 1, 1, 1, None, None, 1, 1, 1, 1))
        self.assertEqual(only_in(STANDS, second), (0, 4, 7))

    def test_100_and_more_parts(self):
        row = row_of_100()
        self.assertEqual(only_in(row, changed_by(row, (0, 0, None, 0, 0, 0))), cheapest(row))
        row = row_of_101()
        self.check_count(101, only_in, row, changed_by(row, (0,) * 6 + (None,)))
        self.check_count(LONG_ROW_PARTS, only_in, long_row(), changed_by(long_row(), (None,) + (0,) * 39))


class TestPriceChange(TestCase):
    def test_examples(self):
        self.assertEqual(price_change(STANDS, MOVED), (0, 0))
        self.assertEqual(price_change(STANDS, DEAR), (0, None))

    def test_no_common_product(self):
        self.assertIsNone(price_change(NOTHING, NOTHING))
        self.assertIsNone(price_change(EMPTY_SLOTS, EMPTY_SLOTS))
        self.assertIsNone(price_change(STANDS, with_prices(STANDS, (None, None) + (0,) * 8)))
        first = (1, (0,), ((0, (), 1), (0, (), None)))
        self.assertIsNone(price_change(first, (1, (0,), ((0, (), None), (0, (), 1)))))

    def test_finitely_many_products(self):
        # The products (0, 3), (1, 2, 3) and (1, 4).
        self.assertEqual(price_change(FIXED, changed_by(FIXED, (1, 0, 0, 0, 0, 0))), (0, 1))
        self.assertEqual(price_change(FIXED, changed_by(FIXED, (1, 2, 3, -4, -9, 50))), (-7, 1))
        self.assertEqual(price_change(FIXED, changed_by(FIXED, (5, 2, 1, 0, 6, 0))), (3, 8))

    def test_unbounded_changes(self):
        for change, expected in ((1, (0, None)), (-1, (None, 0)), (0, (0, 0))):
            self.assertEqual(price_change(STANDS, changed_by(STANDS, (0, 0, change) + (0,) * 7)), expected)
        both = changed_by(STANDS, (0, 0, 1, 0, -1, 0, 0, 0, 0, 0))
        self.assertEqual(price_change(STANDS, both), (None, None))
        # An arm that no product has does not matter.
        self.assertEqual(price_change((4, (3,), STANDS[2]), (4, (3,), both[2])), (0, 0))

    def test_unbounded_in_one_direction_only(self):
        second = changed_by(STANDS, (3, 3, 0, 0, 2, 2, 0, 1, 1, 0))
        self.assertEqual(price_change(STANDS, second), (4, None))
        self.assertEqual(price_change(second, STANDS), (None, -4))

    def test_cycles_that_cost_the_same(self):
        chain = (1, (0,), ((0, (0,), 3), (0, (), 1)))
        self.assertEqual(price_change(chain, (1, (0,), ((0, (0,), 3), (0, (), 6)))), (5, 5))
        self.assertEqual(price_change(FORKS, (1, (0,), ((0, (0, 0), 1), (0, (), 2)))), (1, 1))
        self.assertEqual(price_change(FORKS, (1, (0,), ((0, (0, 0), 1), (0, (), 3)))), (2, None))
        self.assertEqual(price_change(FORKS, (1, (0,), ((0, (0, 0), 0), (0, (), 2)))), (None, 1))

    def test_negative_prices(self):
        first = (1, (0,), ((0, (), -3), (0, (), 4)))
        self.assertEqual(price_change(first, (1, (0,), ((0, (), -8), (0, (), -1)))), (-5, -5))

    def test_against_all_products_of_finite_families(self):
        chance = random.Random(121)
        kinds = {}
        for _ in range(500):
            first = finite_family_by_chance(chance, states=3, variants=8, low=-2)
            second = version_by_chance(first, chance)
            changes = [
                price_of(second, tree) - price_of(first, tree)
                for tree in all_products(first, 15) if is_common(first, second, tree)
            ]
            expected = (min(changes), max(changes)) if changes else None
            self.assertEqual(price_change(first, second), expected)
            self.assertEqual(price_change(second, first), (-expected[1], -expected[0]) if changes else None)
            kinds[None if not changes else len(set(changes)) > 1] = True
        self.assertEqual(set(kinds), {None, False, True})


class TestBalance(TestCase):
    def test_examples(self):
        self.assertEqual(balance(STANDS, MOVED), (0, 2, 2, None))
        self.assertIsNone(balance(STANDS, DEAR))

    def test_nothing_has_changed(self):
        self.assertEqual(balance(STANDS, STANDS), (0, 0, 0, None))
        self.assertEqual(balance(FORKS, FORKS), (0,))

    def test_no_common_product(self):
        for first in (STANDS, FIXED):
            nothing = with_prices(first, (None, None) + (5,) * (len(first[2]) - 2))
            self.assertEqual(balance(first, nothing), (None,) * 4)
            self.assertEqual(balance(nothing, first), (None,) * 4)
        self.assertEqual(balance(NOTHING, NOTHING), (None,) * 3)
        self.assertEqual(balance(EMPTY_SLOTS, EMPTY_SLOTS), (None, None))

    def test_changes_of_states_that_only_other_trees_have(self):
        # State 2 is filled and its price has changed, but no common product has a part there.
        first = (3, (0,), ((0, (1,), 4), (1, (), 3), (2, (), 5), (0, (2,), 1)))
        second = (3, (0,), ((0, (1,), 5), (1, (), 2), (2, (), 9), (0, (2,), None)))
        self.assertEqual(balance(first, second), (0, -1, None))
        self.assertIsNone(balance(first, with_prices(second, (5, 2, 9, 1))))
        self.assertEqual(balance(first, with_prices(second, (5, 2, 9, -3))), (0, -1, 4))

    def test_changes_that_rule_out_a_balance(self):
        for changes in ((1, 1) + (0,) * 8, (0, 0, 1) + (0,) * 7, (0,) * 7 + (1, 0, 0), (0, 0, 1, 0, -1) + (0,) * 5):
            self.assertIsNone(balance(STANDS, changed_by(STANDS, changes)))
            self.assertIsNone(balance(changed_by(STANDS, changes), STANDS))
        self.assertEqual(balance(STANDS, changed_by(STANDS, (0,) * 9 + (7,))), (0, 0, 0, None))

    def test_shifted_families(self):
        for numbers in ((0, 3, -2, 9), (0, -6, 6, 0)):
            self.assertEqual(balance(STANDS, shifted(STANDS, numbers)), numbers[:3] + (None,))
            self.assertEqual(balance(shifted(STANDS, numbers), STANDS), (0, -numbers[1], -numbers[2], None))
        self.assertIsNone(balance(STANDS, shifted(STANDS, (1, 0, 0, 0))))

    def test_against_all_products_of_finite_families(self):
        chance = random.Random(122)
        none = some = nothing = 0
        for _ in range(800):
            first = finite_family_by_chance(chance, states=3, variants=7, low=-2)
            second = version_by_chance(first, chance)
            expected = told_balance(first, second, 15)
            self.assertEqual(balance(first, second), expected)
            self.assertTrue(is_plain(balance(first, second)))
            none += expected is None
            nothing += expected is not None and set(expected) == {None}
            some += expected is not None and bool(set(expected) - {None, 0})
        self.assertGreater(none, 50)
        self.assertGreater(some, 50)
        self.assertGreater(nothing, 20)

    def test_infinitely_many_products(self):
        chance = random.Random(123)
        none = some = 0
        for first in families_by_chance(900, states=3, variants=6, slots=1, low=-2, seed=124):
            if first[2]:
                second = version_by_chance(first, chance)
                expected = told_balance(first, second, 6)
                self.assertEqual(balance(first, second), expected)
                none += expected is None
                some += expected is not None and bool(set(expected) - {None, 0})
        self.assertGreater(none, 20)
        self.assertGreater(some, 10)


class TestFirstChanged(TestCase):
    def test_examples(self):
        self.assertIsNone(first_changed(STANDS, MOVED))
        self.assertEqual(first_changed(STANDS, DEAR), (1, 6, 7))

    def test_no_common_product(self):
        for family in (NOTHING, EMPTY_SLOTS, with_prices(STANDS, (None, None) + (1,) * 8)):
            self.assertIsNone(first_changed(family, family))
        self.assertIsNone(first_changed(STANDS, with_prices(STANDS, (None, None) + (9,) * 8)))

    def test_the_cheapest_product_has_changed(self):
        for change in (1, -1):
            self.assertEqual(first_changed(STANDS, changed_by(STANDS, (0,) * 7 + (change, 0, 0))), (0, 7))
            self.assertEqual(first_changed(STANDS, changed_by(STANDS, (change,) + (0,) * 9)), (0, 7))

    def test_changes_that_are_only_elsewhere(self):
        self.assertEqual(first_changed(STANDS, changed_by(STANDS, (0, 0, 0, 0, 5) + (0,) * 5)), (0, 4, 7))
        self.assertEqual(first_changed(STANDS, changed_by(STANDS, (0, 0, 0, 0, 0, 5) + (0,) * 4)), (1, 5, 6, 7))
        self.assertIsNone(first_changed(STANDS, changed_by(STANDS, (0,) * 9 + (5,))))

    def test_changes_that_cancel_each_other(self):
        # The cheapest product (0, 7) costs the same; the first one with another change has an adapter.
        second = changed_by(STANDS, (-3, 0, 0, 0, 0, 0, 0, 3, 0, 0))
        self.assertEqual(first_changed(STANDS, second), (1, 6, 7))
        # Two parts that have moved in opposite directions, with an arm that brings its change once or twice.
        second = changed_by(STANDS, (2, 0, -2) + (0,) * 7)
        self.assertEqual(first_changed(STANDS, second), (0, 7))
        second = changed_by(STANDS, (-2, 0, 1) + (0,) * 4 + (1, 0, 0))
        self.assertEqual(first_changed(STANDS, second), (0, 7))
        second = changed_by(STANDS, (0, -1, 0, 0, 0, 0, 1, 0, 1, 0))
        self.assertIsNone(first_changed(STANDS, second))

    def test_a_product_costs_the_same_although_a_tree_inside_has_changed(self):
        # At state 1 the first tree (2,) has not changed; the product (0, 3) is changed, the product (1, 3) is not.
        first = (2, (0,), ((0, (1,), 0), (0, (1,), 0), (1, (), 1), (1, (), 2)))
        second = (2, (0,), ((0, (1,), 0), (0, (1,), -4), (1, (), 1), (1, (), 6)))
        self.assertEqual(first_changed(first, second), (1, 2))
        self.assertEqual(first_changed(first, with_prices(second, (0, 0, 1, 6))), (0, 3))
        self.assertEqual(first_changed(first, with_prices(second, (4, 4, 1, -2))), (0, 2))
        self.assertEqual(first_changed(first, with_prices(second, (-1, 4, 2, 6))), (1, 2))
        self.assertEqual(first_changed(first, with_prices(second, (-1, -1, 2, 6))), (0, 3))

    def test_ties(self):
        first = (1, (0,), ((0, (), 2), (0, (), 2), (0, (), 2)))
        self.assertEqual(first_changed(first, with_prices(first, (2, 3, 1))), (1,))
        self.assertEqual(first_changed(first, with_prices(first, (2, 2, 1))), (2,))
        self.assertEqual(first_changed(first, with_prices(first, (None, 2, 1))), (2,))

    def test_several_roots(self):
        first = (3, (0, 1, 2), ((2, (), 1), (1, (0,), 2), (0, (), 3)))
        self.assertEqual(first_changed(first, with_prices(first, (1, 2, 4))), (2,))
        self.assertEqual(first_changed(first, with_prices(first, (1, 3, 3))), (1, 2))
        self.assertEqual(first_changed(first, with_prices(first, (1, 1, 4))), (2,))
        self.assertEqual(first_changed(first, with_prices(first, (0, 2, 4))), (0,))

    def test_missing_variants(self):
        # The product that is first in `first` is not common.
        second = with_prices(STANDS, (30, 35, 12, 12, 18, 17, 4, None, 15, 1))
        self.assertIsNone(first_changed(STANDS, second))
        second = with_prices(STANDS, (30, 35, 12, 12, 17, 18, 4, None, 15, 1))
        self.assertEqual(first_changed(STANDS, second), (1, 5, 8))

    def test_100_and_more_parts(self):
        row = row_of_100()
        self.assertEqual(first_changed(row, changed_by(row, (1,) + (0,) * 5)), cheapest(row))
        row = row_of_101()
        self.check_count(101, first_changed, row, changed_by(row, (0,) * 6 + (1,)))
        # A shorter product has not changed, or it has.
        short = (row[0], (0,), row[2] + ((0, (), 0),))
        self.check_count(101, first_changed, short, changed_by(short, (0,) * 6 + (1, 0)))
        self.assertEqual(first_changed(short, changed_by(short, (0,) * 6 + (1, 1))), (7,))
        self.check_count(LONG_ROW_PARTS, first_changed, long_row(2), changed_by(long_row(2), (0,) * 39 + (-1,)))
        # All changes together are 0.
        even = changed_by(long_row(2), (0,) * 38 + (-3, 1))
        self.assertIsNone(first_changed(long_row(2), even))

    def test_the_first_changed_product_is_at_one_of_several_roots(self):
        # The first tree of root 0 has changed and has too many parts; root 1 has a cheaper changed product.
        row = row_of_101()
        rows = tuple((plug + 2 if plug else 0, tuple(state + 2 for state in slots), 1) for plug, slots, _ in row[2])
        first = (row[0] + 2, (0, 1), rows + ((1, (), 5), (1, (), 6)))
        changes = (1,) + (0,) * 6 + (0, 1)
        self.assertEqual(first_changed(first, changed_by(first, changes)), (8,))
        self.check_count(101, first_changed, first, changed_by(first, (1,) + (0,) * 8))

    def test_against_all_products_of_finite_families(self):
        chance = random.Random(125)
        some = late = 0
        for _ in range(1500):
            first = finite_family_by_chance(chance, states=4, variants=9)
            second = version_by_chance(first, chance)
            common = in_order(first, [tree for tree in all_products(first, 15) if is_common(first, second, tree)])
            changed = [tree for tree in common if price_of(first, tree) != price_of(second, tree)]
            found = first_changed(first, second)
            self.assertEqual(found, changed[0] if changed else None)
            some += bool(changed)
            late += bool(changed) and changed[0] != common[0]
        self.assertGreater(some, 300)
        self.assertGreater(late, 100)

    def test_infinitely_many_products(self):
        chance = random.Random(126)
        late = 0
        for first in families_by_chance(400, states=2, variants=6, slots=1, seed=127):
            if first[2]:
                second = version_by_chance(first, chance)
                common = in_order(first, [tree for tree in all_products(first, 6) if is_common(first, second, tree)])
                changed = [tree for tree in common if price_of(first, tree) != price_of(second, tree)]
                self.assertEqual(first_changed(first, second), changed[0] if changed else None)
                late += bool(changed) and changed[0] != common[0]
        self.assertGreater(late, 20)

    def test_only_in_against_all_products(self):
        chance = random.Random(128)
        some = 0
        for _ in range(500):
            first = finite_family_by_chance(chance, states=4, variants=9)
            second = version_by_chance(first, chance)
            alone = in_order(first, [tree for tree in all_products(first, 15) if not is_product(second, tree)])
            self.assertEqual(only_in(first, second), alone[0] if alone else None)
            some += bool(alone)
        self.assertGreater(some, 50)


class TestArgumentsAlone(TestCase):
    def test_one_after_another(self):
        for ask in ASKS:
            check_independent(self, ask, (STANDS, DEAR), (STANDS, MOVED))
            check_independent(self, ask, (STANDS, DEAR), (FORKS, FORKS))


if __name__ == "__main__":
    unittest.main()
