"""Tests of slotwise/normal.py: points 180 to 182, with 140 and 162."""

import random
import unittest

from slotwise.least import least_weights
from slotwise.normal import normal_form, shifted
from slotwise.trees import price_of
from slotwise.useful import trimmed, useful_variants
from tests.helpers import (
    EMPTY_SLOTS, FIXED, FORKS, LONG_ROW_PARTS, NOTHING, STANDS, all_products, all_trees, check_independent,
    families_by_chance, finite_family_by_chance, is_plain, long_row,
)


def with_prices(family, prices):
    """The family with these prices of its variants."""
    return family[:2] + (tuple((plug, slots, price) for (plug, slots, _), price in zip(family[2], prices)),)


def is_without_negative_prices(family):
    """Whether no variant has a price less than 0."""
    return all(price is None or price >= 0 for _, _, price in family[2])


def products_with_prices(family, most=15):
    """All products and their prices."""
    return {tree: price_of(family, tree) for tree in all_products(family, most)}


def another_version(family, chance):
    """A comparable family without negative prices that differs in a few prices, perhaps also by shifting."""
    prices = [price for _, _, price in family[2]]
    for _ in range(chance.choice((0, 0, 1))):
        prices[chance.randrange(len(prices))] = chance.choice((None, 0, 1, 2))
    changed = with_prices(family, prices)
    numbers = tuple(0 if state in family[1] else chance.randint(-2, 2) for state in range(family[0]))
    moved = shifted(changed, numbers)
    return moved if is_without_negative_prices(moved) else changed


class TestNormalForm(unittest.TestCase):
    def test_examples(self):
        expected = (((0, 36),), (0, 9, 12, 12, 17, 17, 0, 0, 5, None))
        self.assertEqual(normal_form(STANDS), expected)
        self.assertEqual(normal_form(shifted(STANDS, (0, -2, 0, 0))), expected)

    def test_no_roots(self):
        self.assertEqual(normal_form((4, (), STANDS[2])), ((), (None,) * 10))
        self.assertEqual(normal_form(NOTHING), ((), ()))

    def test_no_products(self):
        self.assertEqual(normal_form(EMPTY_SLOTS), ((), (None,) * 3))
        self.assertEqual(normal_form((2, (0,), ((1, (), 3), (0, (0,), 0)))), ((), (None, None)))

    def test_useless_variants(self):
        # Variant 1 can be filled, but its plug is not reached; variant 2 cannot be filled.
        family = (4, (0,), ((0, (), 3), (1, (0,), 4), (0, (3,), 0), (0, (0,), 2)))
        self.assertEqual(normal_form(family), (((0, 3),), (0, None, None, 2)))

    def test_roots_that_are_not_filled(self):
        family = (3, (0, 1, 2), ((0, (1,), 3), (2, (), 4), (2, (), 6), (1, (1,), 0)))
        self.assertEqual(normal_form(family), (((2, 4),), (None, 0, 2, None)))

    def test_several_roots(self):
        self.assertEqual(normal_form((4, (1, 2, 3), FIXED[2])), (((1, 6), (2, 10), (3, 1)), (None, None, 0, 0, 5, 0)))
        # A root keeps its price, also where it is in a slot.
        self.assertEqual(normal_form((2, (0, 1), ((0, (1,), 3), (1, (), 4)))), (((0, 7), (1, 4)), (0, 0)))

    def test_missing_variants(self):
        family = (1, (0,), ((0, (), None), (0, (0, 0), 1), (0, (), 2)))
        self.assertEqual(normal_form(family), (((0, 2),), (None, 3, 0)))

    def test_a_state_in_several_slots(self):
        self.assertEqual(normal_form(FORKS), (((0, 1),), (3, 0)))
        family = (2, (0,), ((0, (1, 1, 1), 2), (0, (1,), 9), (1, (), 5), (1, (), 4)))
        self.assertEqual(normal_form(family), (((0, 13),), (1, 0, 1, 0)))

    def test_more_than_10_to_18_parts(self):
        self.assertEqual(normal_form(long_row(2)), (((0, 2 * LONG_ROW_PARTS),), (0,) * 40))

    def test_useless_variants_make_no_difference(self):
        for family in families_by_chance(100, states=4, variants=9, seed=51):
            self.assertEqual(normal_form(trimmed(family)), normal_form(family))
            self.assertTrue(is_plain(normal_form(family)))

    def test_against_the_words_of_the_document(self):
        for family in families_by_chance(200, states=4, variants=10, seed=52):
            least = [None if weight is None else weight[0] for weight in least_weights(family)]
            bases = tuple((root, least[root]) for root in family[1] if least[root] is not None)
            margins = [None] * len(family[2])
            for number in useful_variants(family):
                plug, slots, price = family[2][number]
                margins[number] = price + sum(least[state] for state in slots) - least[plug]
            self.assertEqual(normal_form(family), (bases, tuple(margins)))

    def test_the_same_products_at_the_same_prices(self):
        chance = random.Random(53)
        alike = different = changed = 0
        for _ in range(1500):
            family = finite_family_by_chance(chance, states=3, variants=6)
            other = another_version(family, chance)
            same = products_with_prices(family) == products_with_prices(other)
            self.assertEqual(normal_form(family) == normal_form(other), same)
            alike += same
            different += not same
            changed += same and family != other and bool(products_with_prices(family))
        self.assertGreater(alike, 300)
        self.assertGreater(different, 200)
        self.assertGreater(changed, 200)

    def test_infinitely_many_products(self):
        chance = random.Random(54)
        alike = different = 0
        for family in families_by_chance(400, states=2, variants=5, slots=1, seed=55):
            if family[2]:
                other = another_version(family, chance)
                same = products_with_prices(family, 5) == products_with_prices(other, 5)
                self.assertEqual(normal_form(family) == normal_form(other), same)
                alike += same and family != other
                different += not same
        self.assertGreater(alike, 30)
        self.assertGreater(different, 30)


class TestShifted(unittest.TestCase):
    def test_examples(self):
        family = (2, (0,), ((0, (1, 1), 9), (1, (), 4), (1, (), None)))
        self.assertEqual(shifted(family, (0, -2)), (2, (0,), ((0, (1, 1), 13), (1, (), 2), (1, (), None))))

    def test_by_0(self):
        for family in (STANDS, FORKS, NOTHING, EMPTY_SLOTS):
            self.assertEqual(shifted(family, (0,) * family[0]), family)

    def test_negative_results(self):
        self.assertEqual(shifted(FORKS, (4,)), (1, (0,), ((0, (0, 0), -2), (0, (), 5))))
        self.assertEqual(shifted(FORKS, (-4,)), (1, (0,), ((0, (0, 0), 6), (0, (), -3))))
        family = (2, (), ((0, (1,), -3), (1, (0,), -5)))
        self.assertEqual(shifted(family, (-1, 2)), (2, (), ((0, (1,), -6), (1, (0,), -2))))

    def test_missing_variants_remain_missing(self):
        self.assertEqual(shifted(EMPTY_SLOTS, (10, 3)), (2, (0,), ((0, (1,), 9), (1, (0,), -4), (1, (), None))))

    def test_a_state_in_several_slots(self):
        family = (2, (0,), ((0, (1, 1, 1), 9), (0, (1, 0, 1), 9), (1, (1,), 9)))
        self.assertEqual(shifted(family, (100, 5)), (2, (0,), ((0, (1, 1, 1), 94), (0, (1, 0, 1), -1), (1, (1,), 9))))

    def test_numbers_of_40_digits(self):
        large = 10 ** 40 - 1
        self.assertEqual(shifted(FORKS, (large,)), (1, (0,), ((0, (0, 0), 2 - large), (0, (), large + 1))))
        self.assertEqual(shifted(FORKS, (-large,)), (1, (0,), ((0, (0, 0), large + 2), (0, (), 1 - large))))

    def test_back_again(self):
        chance = random.Random(56)
        for family in families_by_chance(100, states=4, variants=9, slots=3, low=-4, seed=57):
            numbers = tuple(chance.randint(-9, 9) for _ in range(family[0]))
            back = tuple(-number for number in numbers)
            self.assertEqual(shifted(shifted(family, numbers), back), family)
            self.assertTrue(is_plain(shifted(family, numbers)))

    def test_every_tree_rises_by_the_number_of_its_state(self):
        chance = random.Random(58)
        for family in families_by_chance(100, low=-3, seed=59):
            numbers = tuple(chance.randint(-9, 9) for _ in range(family[0]))
            other = shifted(family, numbers)
            for state, number in enumerate(numbers):
                for tree in all_trees(family, state, 5):
                    self.assertEqual(price_of(other, tree), price_of(family, tree) + number)


class TestArgumentsAlone(unittest.TestCase):
    def test_one_after_another(self):
        check_independent(self, normal_form, (STANDS,), (FIXED,))
        check_independent(self, normal_form, (FORKS,), (with_prices(FORKS, (2, None)),))
        check_independent(self, shifted, (STANDS, (0, 1, 2, 3)), (STANDS, (3, 2, 1, 0)))


if __name__ == "__main__":
    unittest.main()
