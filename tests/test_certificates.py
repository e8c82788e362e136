"""Tests of slotwise/certificates.py: point 304, with 160 to 162, 281, 282 and 300."""

import random
import unittest

from slotwise.certificates import certificate_of, is_sound, least_certificate
from slotwise.errors import TooManyParts
from slotwise.explanations import is_feasible
from slotwise.special import first_with, least_with, specialised
from slotwise.transfer import least_prices
from tests.helpers import (
    LONG_ROW_PARTS, NOTHING, STANDS, all_products, check_independent, demands_by_chance, finite_family_by_chance,
    families_by_chance, in_order, is_plain, long_row, meets, names_by_chance, rank, row_of_100, row_of_101,
)

NAMES = (("top",), ("top",), ("end",), ("end",), ("end",), ("end",), ("end",), (), (), ())
TOP = ("top",)
THREE = ((TOP, (2, 3, 4, 5)), ((), (1,)), (("top", "end"), (7, 8)))
NEVER = (((), ()),)
CHAIN = (1, (0,), ((0, (0,), 3), (0, (), 1)))
CHAIN_NAMES = (("next",), ())
# The chain with two parts; its specialised family has the states 0, 1 for the root and 2 for the slot.
TWO = ((("next",), (1,)),)


def names_of(family):
    """Slot names of a row: the first ones of three names."""
    return tuple(("one", "two", "three")[:len(slots)] for _, slots, _ in family[2])


class TestCase(unittest.TestCase):
    def check_count(self, count, ask, *arguments):
        """Check that the tree of the certificate would have so many parts."""
        with self.assertRaises(TooManyParts) as caught:
            ask(*arguments)
        self.assertEqual(caught.exception.count, count)

    def sound(self, expected, demands, budget, certificate):
        """Check whether a certificate for lamp stands is sound."""
        self.assertIs(is_sound(STANDS, NAMES, demands, budget, certificate), expected, (demands, budget, certificate))

    def chained(self, expected, budget, certificate):
        """Check whether a certificate for the chain with two parts is sound."""
        self.assertIs(is_sound(CHAIN, CHAIN_NAMES, TWO, budget, certificate), expected, (budget, certificate))


class TestCertificateOf(TestCase):
    def test_examples(self):
        self.assertEqual(certificate_of(STANDS, NAMES, THREE, 70), ("feasible", (1, 3, 8)))
        self.assertEqual(certificate_of(CHAIN, CHAIN_NAMES, TWO, 3), ("infeasible", (1, 4, 1)))

    def test_budgets(self):
        for demands, least in (((), 36), (THREE, 62), (((TOP, (4, 5)),), 53)):
            first = ("feasible", first_with(STANDS, NAMES, demands))
            table = ("infeasible", least_prices(specialised(STANDS, NAMES, demands)))
            for budget in (None, least, least + 1, 10 ** 40 - 1):
                self.assertEqual(certificate_of(STANDS, NAMES, demands, budget), first)
            for budget in (0, least - 1):
                self.assertEqual(certificate_of(STANDS, NAMES, demands, budget), table)

    def test_demands_that_are_never_feasible(self):
        for budget in (None, 0, 10 ** 40 - 1):
            self.assertEqual(certificate_of(STANDS, NAMES, NEVER, budget), ("infeasible", (36, 6, 10, 1) + (None,) * 4))
            self.assertEqual(certificate_of(NOTHING, (), (), budget), ("infeasible", (None,) * 6))
        self.sound(True, NEVER, None, ("infeasible", (36, 6, 10, 1) + (None,) * 4))

    def test_a_price_of_0(self):
        free = (1, (0,), ((0, (), 0),))
        self.assertEqual(certificate_of(free, ((),), (), 0), ("feasible", (0,)))
        self.assertEqual(certificate_of((1, (0,), ((0, (), 1),)), ((),), (), 0), ("infeasible", (1, 1)))

    def test_100_and_more_parts(self):
        row = row_of_100()
        self.assertEqual(len(certificate_of(row, names_of(row), (), None)[1]), 100)
        row = row_of_101()
        self.check_count(101, certificate_of, row, names_of(row), (((), (0,)),), 0)
        self.check_count(LONG_ROW_PARTS, certificate_of, long_row(1), names_of(long_row()), (), 10 ** 30)
        # Where there is no product within the budget, there is a table.
        self.assertEqual(certificate_of(long_row(1), names_of(long_row()), (), 99)[0], "infeasible")


class TestLeastCertificate(TestCase):
    def test_examples(self):
        self.assertEqual(least_certificate(CHAIN, CHAIN_NAMES, TWO), ("least", (0, 1), (1, 4, 1)))

    def test_no_product(self):
        self.assertIsNone(least_certificate(STANDS, NAMES, NEVER))
        self.assertIsNone(least_certificate(NOTHING, (), ()))
        self.assertIsNone(least_certificate(STANDS, NAMES, ((TOP, (9,)),)))

    def test_no_demands(self):
        self.assertEqual(least_certificate(STANDS, NAMES, ()), ("least", (0, 7), (36, 6, 10, 1, 36, 6, 10, 1)))

    def test_100_and_more_parts(self):
        row = row_of_100()
        self.assertEqual(len(least_certificate(row, names_of(row), ())[1]), 100)
        row = row_of_101()
        self.check_count(101, least_certificate, row, names_of(row), ())
        self.check_count(LONG_ROW_PARTS, least_certificate, long_row(), names_of(long_row()), ())
        self.assertIsNone(least_certificate(long_row(), names_of(long_row()), NEVER))


class TestIsSoundFeasible(TestCase):
    def test_examples(self):
        self.sound(True, (), 36, ("feasible", (0, 7)))

    def test_budgets(self):
        for tree, price in (((0, 7), 36), ((1, 8), 50), ((0, 2, 7), 48)):
            for budget in (None, price, price + 1, 10 ** 40 - 1):
                self.sound(True, (), budget, ("feasible", tree))
            for budget in (0, price - 1):
                self.sound(False, (), budget, ("feasible", tree))

    def test_another_product_than_the_first_one(self):
        self.sound(True, THREE, 70, ("feasible", (1, 3, 8)))
        self.sound(True, THREE, 70, ("feasible", (1, 5, 8)))
        self.sound(False, THREE, 66, ("feasible", (1, 5, 8)))

    def test_demands_that_are_not_satisfied(self):
        self.sound(False, THREE, None, ("feasible", (0, 7)))
        self.sound(False, THREE, None, ("feasible", (1, 3, 6, 7)))
        self.sound(False, THREE, None, ("feasible", (0, 2, 7)))
        self.sound(False, NEVER, None, ("feasible", (0, 7)))
        self.sound(True, (((), (0,)),), None, ("feasible", (0, 7)))

    def test_what_is_no_product(self):
        for tree in (
            (), (0,), (7,), (7, 0), (0, 7, 7), (0, 8), (-1,), (0, -3), (10,), (0, 10), (0, 10 ** 30), (9,), (2, 7),
            (0, 2), (0,) * 100, (6, 7),
        ):
            self.sound(False, (), None, ("feasible", tree))
            self.sound(False, THREE, None, ("feasible", tree))
        # Numbers of the specialised family are not those of products.
        self.assertIs(is_sound(CHAIN, CHAIN_NAMES, TWO, None, ("feasible", (2, 5))), False)
        self.assertIs(is_sound(CHAIN, CHAIN_NAMES, TWO, None, ("feasible", (0, 1))), True)

    def test_missing_variants(self):
        family = (1, (0,), ((0, (), None), (0, (), 4)))
        self.assertIs(is_sound(family, ((), ()), (), None, ("feasible", (0,))), False)
        self.assertIs(is_sound(family, ((), ()), (), None, ("feasible", (1,))), True)


class TestIsSoundInfeasible(TestCase):
    def test_examples(self):
        self.chained(True, 3, ("infeasible", (0, 4, 1)))
        self.chained(False, 4, ("infeasible", (0, 4, 1)))

    def test_floors(self):
        for table in ((1, 4, 1), (0, 4, 1), (-2, 4, 1), (1, 4, 1), (-(10 ** 99), 4, 1)):
            self.chained(True, 3, ("infeasible", table))
        # One price too high, or none where there has to be one.
        for table in ((2, 4, 1), (1, 5, 1), (1, 4, 2), (None, 4, 1), (1, 4, None), (None, None, None), (1, None, 1)):
            self.chained(False, 3, ("infeasible", table))

    def test_prices_just_at_the_budget(self):
        for price, budget, sound in ((4, 4, False), (4, 3, True), (3, 3, False), (3, 2, True), (1, 0, True), (0, 0, False)):
            self.chained(sound, budget, ("infeasible", (0, price, min(price, 1))))

    def test_no_budget(self):
        self.chained(False, None, ("infeasible", (1, 4, 1)))
        self.sound(False, (), None, ("infeasible", least_prices(specialised(STANDS, NAMES, ()))))
        self.sound(True, NEVER, None, ("infeasible", (0, 0, 0, 0, None, 6, 6, 1)))
        # A price of the root is of no use without a budget, although there is no product.
        self.sound(False, NEVER, None, ("infeasible", (0, 0, 0, 0, 99, 6, 6, 1)))
        self.sound(True, NEVER, 98, ("infeasible", (0, 0, 0, 0, 99, 6, 6, 1)))

    def test_several_roots(self):
        family = (2, (0, 1), ((0, (), 5), (1, (), 7)))
        for table, budget, expected in (
            ((5, 7, 5, 7), 4, True), ((5, 7, 5, 7), 5, False), ((5, 7, 5, 7), 6, False), ((0, 0, 5, 4), 4, False),
            ((0, 0, 5, 5), 4, True), ((0, 0, 5, None), 4, False), ((0, 0, 6, 7), 4, False),
        ):
            self.assertIs(is_sound(family, ((), ()), (), budget, ("infeasible", table)), expected)

    def test_no_variants(self):
        for budget in (None, 0, 9):
            self.assertIs(is_sound(NOTHING, (), (), budget, ("infeasible", (None,) * 6)), True)
            self.assertIs(is_sound(NOTHING, (), (), budget, ("infeasible", (1,) * 6)), True)


class TestIsSoundLeast(TestCase):
    def test_made_by_the_program(self):
        for budget in (None, 0, 4, 99):
            self.chained(True, budget, ("least", (0, 1), (1, 4, 1)))

    def test_tables(self):
        for table in ((0, 4, 1), (-9, 4, 1)):
            self.chained(True, None, ("least", (0, 1), table))
        for table in ((1, 3, 1), (1, 5, 1), (1, 4, 0), (1, 4, 2), (2, 4, 1), (1, None, 1), (None, 4, 1), (None,) * 3):
            self.chained(False, None, ("least", (0, 1), table))

    def test_trees(self):
        table = least_prices(specialised(STANDS, NAMES, THREE))
        self.sound(True, THREE, None, ("least", (1, 3, 8), table))
        # Another product, one that does not satisfy the demands, and what is none.
        for tree in ((1, 5, 8), (0, 7), (0, 2, 7), (), (1, 3), (1, 3, 8, 8), (1, 3, -2), (1, 3, 18), (11, 23, 38)):
            self.sound(False, THREE, None, ("least", tree, table))

    def test_another_product_of_the_least_price(self):
        family = (1, (0,), ((0, (), 5), (0, (), 5), (0, (), 6)))
        for number, expected in ((0, True), (1, True), (2, False)):
            self.assertIs(is_sound(family, ((), (), ()), (), 0, ("least", (number,), (5, 5))), expected)

    def test_a_root_without_a_price(self):
        family = (2, (0, 1), ((0, (), 5), (1, (1,), 7)))
        self.assertIs(is_sound(family, ((), ("a",)), (), None, ("least", (0,), (5, None, 5, None))), True)
        self.assertIs(is_sound(family, ((), ("a",)), (), None, ("least", (0,), (5, None, 4, None))), False)
        self.assertIs(is_sound(family, ((), ("a",)), (), None, ("least", (0,), (5, None, None, None))), False)
        self.assertIs(is_sound(family, ((), ("a",)), (), None, ("least", (0,), (5, 3, 5, 5))), True)
        self.assertIs(is_sound(family, ((), ("a",)), (), None, ("least", (0,), (5, 3, 5, 4))), False)


class TestByChance(TestCase):
    def test_certificates_are_sound_and_tell_what_is_feasible(self):
        chance = random.Random(111)
        forms = {"feasible": 0, "infeasible": 0, "least": 0}
        for _ in range(300):
            family = finite_family_by_chance(chance, states=4, variants=10)
            names = names_by_chance(family, chance)
            demands = demands_by_chance(family, chance)
            budget = chance.choice((None, 0, 3, 6, 9))
            products = in_order(family, all_products(family, 15))
            wanted = [tree for tree in products if meets(family, names, tree, demands)]
            certificate = certificate_of(family, names, demands, budget)
            self.assertTrue(is_plain(certificate))
            self.assertIs(is_sound(family, names, demands, budget, certificate), True)
            feasible = bool(wanted) and (budget is None or rank(family, wanted[0])[0] <= budget)
            self.assertEqual(certificate[0], "feasible" if feasible else "infeasible")
            if feasible:
                self.assertEqual(certificate, ("feasible", wanted[0]))
            else:
                self.assertEqual(certificate[1], least_prices(specialised(family, names, demands)))
            least = least_certificate(family, names, demands)
            self.assertEqual(least is not None, bool(wanted))
            if wanted:
                self.assertEqual(least, ("least", wanted[0], least_prices(specialised(family, names, demands))))
                self.assertIs(is_sound(family, names, demands, budget, least), True)
                forms["least"] += 1
            forms[certificate[0]] += 1
        self.assertGreater(min(forms.values()), 60)

    def test_no_sound_certificate_tells_something_wrong(self):
        chance = random.Random(112)
        sound = {"feasible": 0, "infeasible": 0, "least": 0}
        for family in families_by_chance(500, states=2, variants=5, slots=1, seed=113):
            names = names_by_chance(family, chance)
            demands = demands_by_chance(family, chance, most=1, longest=1)
            budget = chance.choice((None, 0, 2, 4))
            many = specialised(family, names, demands)[0]
            least = least_with(family, names, demands)
            for _ in range(20):
                tree = tuple(chance.randrange(len(family[2]) + 1) for _ in range(chance.randint(0, 3)))
                table = tuple(chance.choice((None, 0, 1, 2, 3, 4)) for _ in range(many))
                best = least_prices(specialised(family, names, demands))
                table = tuple(one if chance.random() < 0.3 else other for one, other in zip(table, best))
                if is_sound(family, names, demands, budget, ("feasible", tree)):
                    self.assertTrue(is_feasible(family, names, demands, budget))
                    sound["feasible"] += 1
                if is_sound(family, names, demands, budget, ("infeasible", table)):
                    self.assertFalse(is_feasible(family, names, demands, budget))
                    sound["infeasible"] += 1
                if is_sound(family, names, demands, budget, ("least", tree, table)):
                    self.assertEqual(rank(family, tree)[0], least)
                    sound["least"] += 1
        self.assertGreater(min(sound.values()), 30)


class TestArgumentsAlone(TestCase):
    def test_one_after_another(self):
        chain = (CHAIN, CHAIN_NAMES, TWO)
        check_independent(self, certificate_of, (STANDS, NAMES, THREE, 70), chain + (3,))
        check_independent(self, certificate_of, chain + (3,), chain + (4,))
        check_independent(self, least_certificate, (STANDS, NAMES, THREE), chain)
        for certificate in (("infeasible", (0, 4, 1)), ("feasible", (0, 1))):
            check_independent(self, is_sound, chain + (3, certificate), chain + (4, certificate))


if __name__ == "__main__":
    unittest.main()
