"""Tests of slotwise/configurations.py: points 361 to 366, with 4 and 105."""

import random
import unittest

from slotwise import errors
from slotwise.catalogues import Catalogue
from slotwise.choices import candidates_of
from slotwise.configurations import Configuration
from slotwise.domains import variables_of
from tests.helpers import (
    CABINETS, LAMPS, RACKS, all_products, definition_by_chance, in_order, is_plain, paths_in, rank, row_definition,
)

LAMP = Catalogue(LAMPS)
RACK = Catalogue(RACKS)
CABINET = Catalogue(CABINETS)
TOP = ("top",)
END = ("top", "end")
STAND = (("stand", ("small",)), ("bulb", ("small",)))


def state_of(configuration):
    """Everything that a change may change."""
    return (
        configuration.choices, configuration.demands, configuration.budget, configuration.changes,
        configuration.journal, len(configuration), tuple(configuration),
    )


class Model:
    """A configuration of a catalogue with finitely many products, by the words of the document."""

    def __init__(self, catalogue, most):
        definition = catalogue.definition
        self.catalogue = catalogue
        self.products = []
        for tree in in_order(catalogue.family, all_products(catalogue.family, most)):
            told = {}
            for path, number in zip(paths_in(catalogue.family, catalogue.slot_names, tree), tree):
                component, values, _ = catalogue.variants[number]
                names = [name for name, _ in variables_of(definition, component)]
                told[path] = {"component": component, **dict(zip(names, values))}
            self.products.append((rank(catalogue.family, tree)[0], told, catalogue.product_of(tree)))
        self.choices = []
        self.budget = None
        self.past = []

    def fitting(self, choices, budget):
        """The products within the budget of which all these choices hold, in order."""
        return [
            product for product in self.products
            if (budget is None or product[0] <= budget)
            and all(name in product[1].get(path, ()) and product[1][path][name] == value
                    for path, name, value in choices)
        ]

    def remaining(self, *further):
        """The remaining products of which these further choices hold."""
        return self.fitting(self.choices + list(further), self.budget)

    def change(self, choices, budget):
        """Carry out a change."""
        self.past.append((self.choices, self.budget))
        self.choices, self.budget = choices, budget

    def others(self, path, name):
        """The choices that are not for the same thing."""
        return [choice for choice in self.choices if choice[:2] != (path, name)]

    def choose(self, path, name, value):
        if len(self.past) == 20:
            return errors.TooManyChanges
        if len(self.others(path, name)) < len(self.choices):
            return errors.AlreadyChosen
        if len(self.choices) == 8:
            return errors.TooManyChoices
        if not self.remaining((path, name, value)):
            return errors.NotAvailable
        self.change(self.choices + [(path, name, value)], self.budget)
        return None

    def retract(self, path, name):
        if len(self.past) == 20:
            return errors.TooManyChanges
        if len(self.others(path, name)) == len(self.choices):
            return errors.NotChosen
        self.change(self.others(path, name), self.budget)
        return None

    def exchange(self, path, name, value):
        others = self.others(path, name)
        if len(self.past) == 20:
            return errors.TooManyChanges
        if len(others) == 8:
            return errors.TooManyChoices
        chosen = [(path, name, value)]
        if not self.fitting(chosen, self.budget):
            return errors.NotAvailable
        for choice in others[::-1]:
            if self.fitting([choice] + chosen, self.budget):
                chosen = [choice] + chosen
        previous = self.choices
        self.change(chosen, self.budget)
        return tuple(choice for choice in previous if choice not in chosen)

    def set_budget(self, budget):
        if len(self.past) == 20:
            return errors.TooManyChanges
        if not self.fitting(self.choices, budget):
            return errors.NothingWithinBudget
        self.change(self.choices, budget)
        return None

    def undo(self):
        if not self.past:
            return False
        self.choices, self.budget = self.past.pop()
        return True

    def offers(self, path, name):
        found = []
        for value in candidates_of(self.catalogue, name):
            left = self.remaining((path, name, value))
            if left:
                found.append((value, left[0][0]))
        return tuple(found)

    def names_at(self, path):
        definition = self.catalogue.definition
        names = ["component"]
        for row in definition[1]:
            names += [name for name, _ in variables_of(definition, row[0]) if name not in names]
        return tuple(name for name in names if self.offers(path, name))

    def slots_at(self, path):
        found = []
        for row in self.catalogue.definition[1]:
            for slot, _ in row[3]:
                if slot not in found and any(path + (slot,) in product[1] for product in self.remaining()):
                    found.append(slot)
        order = [slot for row in self.catalogue.definition[1] for slot, _ in row[3]]
        return tuple(sorted(found, key=order.index))

    def witness(self, *choice):
        left = self.remaining(choice)
        return left[0][2] if left else None

    def explanation(self, *choice):
        left = list(self.choices)
        if self.remaining(choice):
            return None
        for other in self.choices[::-1]:
            fewer = [one for one in left if one != other]
            if not self.fitting(fewer + [choice], self.budget):
                left = fewer
        return tuple(left)


class TestCase(unittest.TestCase):
    def refuse(self, configuration, error, method, *arguments):
        """Check that the call raises exactly this error, and that it changes nothing."""
        before = state_of(configuration)
        with self.assertRaises(errors.SlotError) as caught:
            getattr(configuration, method)(*arguments)
        self.assertIs(type(caught.exception), error)
        self.assertEqual(state_of(configuration), before)

    def full(self):
        """A configuration with 8 choices."""
        desk = Configuration(LAMP)
        self.assertIsNone(desk.choose((), "component", "stand"))
        desk.choose((), "top.size", "large")
        desk.choose(TOP, "component", "arm")
        desk.choose(TOP, "length", 2)
        desk.choose(TOP, "plug.size", "large")
        desk.choose(TOP, "end.size", "large")
        desk.choose(END, "component", "bulb")
        desk.choose(END, "plug.size", "large")
        return desk

    def changed_20_times(self):
        """A configuration whose 20 changes can be undone."""
        desk = Configuration(LAMP)
        desk.choose(TOP, "component", "arm")
        for budget in range(48, 67):
            desk.set_budget(budget)
        return desk


class TestExamples(TestCase):
    def test_the_desk_of_point_3(self):
        desk = Configuration(LAMP)
        self.assertIsNone(desk.choose(TOP, "component", "arm"))
        self.assertIsNone(desk.choose(TOP, "length", 2))
        self.assertEqual(desk.offers(TOP, "plug.size"), (("small", 53), ("large", 62)))
        self.assertIsNone(desk.set_budget(62))
        self.assertEqual(desk.offers(END, "component"), (("adapter", 62), ("bulb", 53)))

    def test_the_desk_of_the_interface(self):
        desk = Configuration(LAMP)
        desk.choose(TOP, "component", "arm")
        desk.choose((), "top.size", "large")
        desk.choose(END, "component", "bulb")
        arm, large = (TOP, "component", "arm"), ((), "top.size", "large")
        self.assertEqual(desk.explanation(END, "plug.size", "small"), (arm, large))
        self.assertEqual(desk.exchange(END, "plug.size", "small"), (arm,))
        self.assertEqual(desk.choices, (large, (END, "component", "bulb"), (END, "plug.size", "small")))
        self.assertEqual(desk.names_at(TOP), ("component", "plug.size", "end.size"))
        self.assertEqual(desk.slots_at(TOP), ("end",))
        witness = (("stand", ("large",)), ("adapter", ("large", "small")), ("bulb", ("small",)))
        self.assertEqual(desk.witness(TOP, "component", "adapter"), witness)
        self.assertEqual(desk.product_count(), 1)
        self.assertIs(desk.undo(), True)
        self.assertEqual(desk.offers(END, "plug.size"), (("large", 62),))
        self.assertEqual(desk.changes, 3)


class TestNew(TestCase):
    def test_a_new_configuration(self):
        desk = Configuration(LAMP)
        self.assertIs(desk.catalogue, LAMP)
        self.assertEqual(state_of(desk), ((), (), None, 0, (), 0, ()))

    def test_no_products(self):
        for product in ("joint", "rail"):
            definition = (LAMPS[0], (LAMPS[1][0], LAMPS[1][1]), product)
            with self.assertRaises(errors.NoProducts):
                Configuration(Catalogue(definition))
        with self.assertRaises(errors.NoProducts):
            Configuration(Catalogue((LAMPS[0], LAMPS[1][:3], "whole")))

    def test_products_with_very_many_parts_are_products(self):
        desk = Configuration(Catalogue(row_definition((3, 3, 3, 3, 3))))
        self.assertEqual(desk.offers(("s0",), "component"), (("c1", 364),))


class TestChoose(TestCase):
    def test_choices_in_the_order_in_which_they_are_made(self):
        desk = self.full()
        self.assertEqual(len(desk), 8)
        self.assertEqual(tuple(desk), desk.choices)
        self.assertEqual(desk.choices[:2], (((), "component", "stand"), ((), "top.size", "large")))
        self.assertEqual(desk.demands[:3], (((), (0, 1)), ((), (1,)), (TOP, (2, 3, 4, 5))))
        self.assertEqual(desk.changes, 8)
        self.assertTrue(is_plain(state_of(desk)))

    def test_already_chosen(self):
        desk = Configuration(LAMP)
        desk.choose(TOP, "plug.size", "large")
        for value in ("large", "small", "nothing", 5):
            self.refuse(desk, errors.AlreadyChosen, "choose", TOP, "plug.size", value)
        desk.choose((), "top.size", "large")
        desk.choose(TOP, "end.size", "small")

    def test_too_many_choices(self):
        desk = self.full()
        self.refuse(desk, errors.TooManyChoices, "choose", END, "length", 1)
        self.refuse(desk, errors.TooManyChoices, "choose", ("nowhere",), "component", "arm")
        self.refuse(desk, errors.AlreadyChosen, "choose", END, "plug.size", "small")

    def test_not_available(self):
        desk = Configuration(LAMP)
        for path, name, value in (
            ((), "component", "arm"), ((), "size", "large"), (("end",), "component", "arm"), (TOP, "component", "clamp"),
            (TOP, "component", "lamp"), (TOP, "component", 1), (TOP, "length", 3), (TOP, "length", "1"),
            (TOP, "top.size", "large"), ((), "top.size", 0), (("top", "top"), "component", "bulb"),
        ):
            self.refuse(desk, errors.NotAvailable, "choose", path, name, value)
        desk.choose((), "top.size", "small")
        self.refuse(desk, errors.NotAvailable, "choose", TOP, "component", "adapter")

    def test_the_budget_matters(self):
        desk = Configuration(LAMP)
        desk.set_budget(47)
        self.refuse(desk, errors.NotAvailable, "choose", TOP, "component", "arm")
        desk.set_budget(48)
        desk.choose(TOP, "component", "arm")
        self.refuse(desk, errors.NotAvailable, "choose", TOP, "plug.size", "large")

    def test_paths_of_four_names(self):
        desk = Configuration(LAMP)
        desk.choose(("top", "end", "end", "end"), "component", "arm")
        self.assertEqual(desk.offers(("top", "end"), "component"), (("arm", 81), ("adapter", 81)))

    def test_too_many_changes_comes_first(self):
        desk = self.changed_20_times()
        for value in ("arm", "bulb", "nothing"):
            self.refuse(desk, errors.TooManyChanges, "choose", TOP, "component", value)
        self.refuse(desk, errors.TooManyChanges, "choose", TOP, "length", 1)


class TestRetract(TestCase):
    def test_retracting(self):
        desk = self.full()
        self.assertIsNone(desk.retract(TOP, "component"))
        self.assertEqual(desk.choices[1:3], (((), "top.size", "large"), (TOP, "length", 2)))
        self.assertEqual(len(desk.demands), 7)
        self.assertEqual(desk.changes, 9)
        self.assertEqual(desk.journal[-1], ("retract", TOP, "component"))

    def test_not_chosen(self):
        desk = Configuration(LAMP)
        self.refuse(desk, errors.NotChosen, "retract", TOP, "component")
        desk.choose(TOP, "component", "arm")
        for path, name in (((), "component"), (TOP, "length"), (("nowhere",), "nothing")):
            self.refuse(desk, errors.NotChosen, "retract", path, name)
        desk.retract(TOP, "component")
        self.refuse(desk, errors.NotChosen, "retract", TOP, "component")

    def test_too_many_changes_comes_first(self):
        desk = self.changed_20_times()
        self.refuse(desk, errors.TooManyChanges, "retract", TOP, "component")
        self.refuse(desk, errors.TooManyChanges, "retract", TOP, "length")


class TestExchange(TestCase):
    def test_a_choice_for_the_same_thing(self):
        desk = Configuration(LAMP)
        desk.choose(TOP, "plug.size", "large")
        desk.choose((), "component", "stand")
        self.assertEqual(desk.exchange(TOP, "plug.size", "small"), ((TOP, "plug.size", "large"),))
        self.assertEqual(desk.choices, (((), "component", "stand"), (TOP, "plug.size", "small")))

    def test_an_equal_choice_goes_to_the_end(self):
        desk = Configuration(LAMP)
        desk.choose(TOP, "plug.size", "large")
        desk.choose((), "component", "stand")
        self.assertEqual(desk.exchange(TOP, "plug.size", "large"), ())
        self.assertEqual(desk.choices, (((), "component", "stand"), (TOP, "plug.size", "large")))
        self.assertEqual(desk.changes, 3)

    def test_several_choices_are_thrown_out(self):
        desk = self.full()
        thrown = desk.exchange((), "top.size", "small")
        gone = (
            ((), "top.size", "large"), (TOP, "plug.size", "large"), (TOP, "end.size", "large"), (END, "plug.size", "large"),
        )
        self.assertEqual(thrown, gone)
        kept = (
            ((), "component", "stand"), (TOP, "component", "arm"), (TOP, "length", 2), (END, "component", "bulb"),
            ((), "top.size", "small"),
        )
        self.assertEqual(desk.choices, kept)
        self.assertEqual(desk.demands[-1], ((), (0,)))
        self.assertEqual(len(desk.demands), 5)
        self.assertIs(desk.undo(), True)
        self.assertEqual(desk.choices, self.full().choices)

    def test_newer_choices_are_kept(self):
        desk = Configuration(LAMP)
        desk.choose((), "top.size", "large")
        desk.choose(TOP, "component", "arm")
        # A small bulb at the end of a large stand needs an adapter instead of the arm.
        self.assertEqual(desk.exchange(END, "component", "bulb"), ())
        self.assertEqual(desk.exchange(END, "plug.size", "small"), (((), "top.size", "large"),))
        self.assertEqual(desk.choices, ((TOP, "component", "arm"), (END, "component", "bulb"), (END, "plug.size", "small")))

    def test_nothing_is_thrown_out(self):
        desk = Configuration(LAMP)
        self.assertEqual(desk.exchange(TOP, "component", "arm"), ())
        self.assertEqual(desk.exchange(TOP, "length", 2), ())
        self.assertEqual(desk.choices, ((TOP, "component", "arm"), (TOP, "length", 2)))

    def test_eight_choices(self):
        desk = self.full()
        self.refuse(desk, errors.TooManyChoices, "exchange", END, "length", 1)
        self.refuse(desk, errors.TooManyChoices, "exchange", ("nowhere",), "component", "arm")
        self.assertEqual(desk.exchange(END, "plug.size", "large"), ())
        self.assertEqual(desk.choices, self.full().choices)
        self.refuse(desk, errors.NotAvailable, "exchange", END, "plug.size", "middle")

    def test_not_available(self):
        desk = Configuration(LAMP)
        for path, name, value in (((), "component", "arm"), (TOP, "length", 3), (("end",), "component", "bulb")):
            self.refuse(desk, errors.NotAvailable, "exchange", path, name, value)
        desk.set_budget(47)
        self.refuse(desk, errors.NotAvailable, "exchange", TOP, "component", "arm")
        self.assertEqual(desk.exchange(TOP, "component", "adapter"), ())

    def test_choices_beyond_the_budget_are_thrown_out(self):
        desk = Configuration(LAMP)
        desk.choose(TOP, "component", "arm")
        desk.choose(TOP, "length", 2)
        desk.set_budget(56)
        self.assertEqual(desk.exchange((), "top.size", "large"), ((TOP, "component", "arm"), (TOP, "length", 2)))

    def test_too_many_changes_comes_first(self):
        desk = self.changed_20_times()
        self.refuse(desk, errors.TooManyChanges, "exchange", TOP, "component", "arm")
        self.refuse(desk, errors.TooManyChanges, "exchange", TOP, "component", "nothing")


class TestSetBudget(TestCase):
    def test_budgets(self):
        desk = Configuration(LAMP)
        self.assertIsNone(desk.set_budget(36))
        self.assertEqual(desk.budget, 36)
        self.refuse(desk, errors.NothingWithinBudget, "set_budget", 35)
        self.refuse(desk, errors.NothingWithinBudget, "set_budget", 0)
        self.assertIsNone(desk.set_budget(36))
        self.assertIsNone(desk.set_budget(None))
        self.assertIsNone(desk.budget)
        self.assertEqual(desk.changes, 3)
        desk.choose(TOP, "component", "arm")
        self.refuse(desk, errors.NothingWithinBudget, "set_budget", 47)
        desk.set_budget(48)

    def test_too_many_changes_comes_first(self):
        desk = self.changed_20_times()
        for budget in (None, 0, 66):
            self.refuse(desk, errors.TooManyChanges, "set_budget", budget)


class TestUndo(TestCase):
    def test_nothing_to_undo(self):
        desk = Configuration(LAMP)
        self.assertIs(desk.undo(), False)
        self.assertEqual(state_of(desk), ((), (), None, 0, (), 0, ()))

    def test_each_change_is_undone(self):
        desk = self.full()
        states = []
        for method, arguments in (
            ("undo", ()), ("set_budget", (100,)), ("exchange", (TOP, "plug.size", "small")), ("retract", (TOP, "length")),
            ("set_budget", (None,)), ("choose", (TOP, "length", 1)),
        ):
            if method != "undo":
                states.append(state_of(desk)[:4])
            getattr(desk, method)(*arguments)
        while states:
            self.assertIs(desk.undo(), True)
            self.assertEqual(state_of(desk)[:4], states.pop())
        for _ in range(7):
            self.assertIs(desk.undo(), True)
        self.assertIs(desk.undo(), False)
        self.assertEqual(state_of(desk)[:4], ((), (), None, 0))

    def test_changes_that_leave_everything_as_it_is_can_be_undone(self):
        desk = Configuration(LAMP)
        desk.set_budget(None)
        self.assertEqual(desk.changes, 1)
        self.assertIs(desk.undo(), True)
        self.assertIs(desk.undo(), False)

    def test_20_changes(self):
        desk = self.changed_20_times()
        self.assertEqual(desk.changes, 20)
        self.refuse(desk, errors.TooManyChanges, "set_budget", None)
        self.assertIs(desk.undo(), True)
        self.assertEqual((desk.budget, desk.changes), (65, 19))
        self.assertIsNone(desk.set_budget(None))
        self.refuse(desk, errors.TooManyChanges, "retract", TOP, "component")
        for _ in range(20):
            self.assertIs(desk.undo(), True)
        self.assertIs(desk.undo(), False)


class TestQuestions(TestCase):
    def test_contains(self):
        desk = Configuration(LAMP)
        large = (("stand", ("large",)), ("bulb", ("large",)))
        self.assertIs(STAND in desk, True)
        self.assertIs(large in desk, True)
        desk.set_budget(49)
        self.assertIs(STAND in desk, True)
        self.assertIs(large in desk, False)
        desk.set_budget(50)
        self.assertIs(large in desk, True)
        desk.choose((), "top.size", "large")
        self.assertIs(STAND in desk, False)
        self.assertIs(large in desk, True)
        for product in ((), STAND[:1], large + large, (("clamp", ()),), (("lamp", ()),), (STAND[1], STAND[0])):
            self.assertIs(product in desk, False)

    def test_offers_at_paths_with_and_without_a_part(self):
        desk = Configuration(LAMP)
        self.assertEqual(desk.offers((), "component"), (("stand", 36),))
        self.assertEqual(desk.offers((), "top.size"), (("small", 36), ("large", 45)))
        self.assertEqual(desk.offers(TOP, "component"), (("arm", 48), ("adapter", 45), ("bulb", 36)))
        self.assertEqual(desk.offers(TOP, "length"), ((1, 48), (2, 53)))
        self.assertEqual(desk.offers(TOP, "top.size"), ())
        self.assertEqual(desk.offers(TOP, "size"), ())
        self.assertEqual(desk.offers(("end",), "component"), ())
        self.assertEqual(desk.offers(("top", "top"), "component"), ())
        desk.choose(TOP, "component", "bulb")
        self.assertEqual(desk.offers(TOP, "component"), (("bulb", 36),))
        self.assertEqual(desk.offers(END, "component"), ())

    def test_names_and_slots_at_paths_with_and_without_a_part(self):
        desk = Configuration(LAMP)
        self.assertEqual(desk.names_at(()), ("component", "top.size"))
        self.assertEqual(desk.names_at(TOP), ("component", "length", "plug.size", "end.size"))
        self.assertEqual(desk.slots_at(()), ("top",))
        self.assertEqual(desk.slots_at(TOP), ("end",))
        for path in (("end",), ("top", "top"), ("a", "b", "c", "d")):
            self.assertEqual(desk.names_at(path), ())
            self.assertEqual(desk.slots_at(path), ())
        desk.choose(TOP, "component", "bulb")
        self.assertEqual(desk.names_at(TOP), ("component", "plug.size"))
        self.assertEqual(desk.slots_at(TOP), ())
        self.assertEqual(desk.names_at(END), ())

    def test_names_in_the_order_of_all_components(self):
        rack = Configuration(RACK)
        rack.choose((), "component", "single")
        rack.choose(("left",), "component", "box")
        self.assertEqual(rack.names_at(()), ("component", "left.size"))
        self.assertEqual(rack.slots_at(()), ("left",))
        self.assertEqual(rack.names_at(("left",)), ("component", "color", "plug.size", "inner.level"))
        self.assertEqual(rack.names_at(("left", "inner")), ("component", "color", "plug.level"))

    def test_a_component_without_variables(self):
        definition = (LAMPS[0], LAMPS[1], "rail")
        clamp = Configuration(Catalogue(definition))
        self.assertEqual(clamp.names_at(()), ("component",))
        self.assertEqual(clamp.slots_at(()), ())

    def test_witness(self):
        desk = Configuration(LAMP)
        self.assertEqual(desk.witness((), "component", "stand"), STAND)
        self.assertIsNone(desk.witness(TOP, "component", "clamp"))
        self.assertIsNone(desk.witness(("end",), "component", "bulb"))
        large = (("stand", ("large",)), ("bulb", ("large",)))
        desk.choose((), "top.size", "large")
        self.assertEqual(desk.witness(TOP, "component", "bulb"), large)
        desk.set_budget(49)
        self.assertIsNone(desk.witness(TOP, "component", "bulb"))
        self.assertIsNone(desk.witness(TOP, "plug.size", "small"))

    def test_witness_with_too_many_parts(self):
        desk = Configuration(Catalogue(row_definition((3, 3, 3, 3, 2))))
        with self.assertRaises(errors.TooManyParts) as caught:
            desk.witness((), "component", "c0")
        self.assertEqual(caught.exception.count, 283)
        self.assertIsNone(desk.witness((), "component", "c1"))
        with self.assertRaises(errors.TooManyParts):
            desk.cheapest()
        self.assertEqual(desk.first_products(), ())
        self.assertEqual(desk.price_range(), (283, 283))
        small = Configuration(Catalogue(row_definition((3, 3, 3, 1, 1))))
        self.assertEqual(len(small.witness(("s2",), "component", "c1")), 94)

    def test_witness_beyond_the_budget_with_too_many_parts(self):
        definition = row_definition((3, 3, 3, 3, 2))
        cheap = ("cheap", "first", (), (), (), (), 7, ())
        desk = Configuration(Catalogue((definition[0], definition[1] + (cheap,), "first")))
        desk.set_budget(282)
        self.assertIsNone(desk.witness((), "component", "c0"))
        desk.set_budget(283)
        with self.assertRaises(errors.TooManyParts):
            desk.witness((), "component", "c0")
        self.assertEqual(desk.cheapest(), (("cheap", ()),))

    def test_explanation(self):
        desk = Configuration(LAMP)
        self.assertIsNone(desk.explanation(TOP, "component", "arm"))
        self.assertEqual(desk.explanation(TOP, "component", "clamp"), ())
        desk.choose(TOP, "component", "arm")
        self.assertEqual(desk.explanation(TOP, "component", "clamp"), ())
        self.assertEqual(desk.explanation(TOP, "component", "bulb"), ((TOP, "component", "arm"),))
        self.assertIsNone(desk.explanation(TOP, "component", "arm"))
        desk.choose((), "top.size", "small")
        desk.set_budget(60)
        self.assertEqual(desk.explanation(TOP, "plug.size", "large"), (((), "top.size", "small"),))
        desk.retract((), "top.size")
        self.assertIsNone(desk.explanation(TOP, "plug.size", "large"))
        self.assertIsNone(desk.explanation(END, "plug.size", "large"))
        desk.set_budget(56)
        self.assertEqual(desk.explanation(END, "plug.size", "large"), ())

    def test_explanation_by_a_choice_for_the_same_thing(self):
        desk = Configuration(LAMP)
        desk.choose(TOP, "plug.size", "large")
        self.assertEqual(desk.explanation(TOP, "plug.size", "small"), ((TOP, "plug.size", "large"),))
        desk.choose((), "top.size", "large")
        # Either choice rules the small size out; the later one is left out first.
        self.assertEqual(desk.explanation(TOP, "plug.size", "small"), ((TOP, "plug.size", "large"),))
        self.assertEqual(desk.explanation((), "top.size", "small"), ((TOP, "plug.size", "large"),))

    def test_products_that_satisfy_the_choices_whatever_the_budget_is(self):
        desk = Configuration(LAMP)
        self.assertEqual(desk.price_range(), (36, None))
        self.assertEqual(desk.cheapest(), STAND)
        self.assertIsNone(desk.product_count())
        desk.choose(TOP, "component", "bulb")
        desk.set_budget(36)
        self.assertEqual(desk.price_range(), (36, 50))
        self.assertEqual(desk.product_count(), 2)
        large = (("stand", ("large",)), ("bulb", ("large",)))
        self.assertEqual(desk.first_products(), (STAND, large))
        self.assertEqual(desk.first_products(many=1), (STAND,))
        self.assertEqual(desk.first_products(many=1, most=1), ())
        desk.retract(TOP, "component")
        desk.choose(TOP, "plug.size", "small")
        small_arm = STAND[:1] + (("arm", (1, "small", "small")),) + STAND[1:]
        self.assertEqual(desk.first_products(most=3, many=2), (STAND, small_arm))
        self.assertEqual(desk.cheapest(), STAND)

    def test_too_many_trees(self):
        attributes = tuple((name, ("range", 1, 6)) for name in ("a", "b"))
        leaf = ("leaf", "sixth", attributes, (), (), (), 1, ())
        ports, components, product = row_definition((3, 3, 3, 1, 1))
        desk = Configuration(Catalogue((ports, components[:5] + (leaf,), product)))
        with self.assertRaises(errors.TooManyTrees):
            desk.product_count()

    def test_as_the_methods_of_a_catalogue(self):
        chance = random.Random(151)
        for catalogue in [LAMP, RACK, CABINET] + [Catalogue(definition_by_chance(chance)) for _ in range(60)]:
            if catalogue.price_range() is None:
                self.assertRaises(errors.NoProducts, Configuration, catalogue)
                continue
            desk = Configuration(catalogue)
            # A budget makes no difference for them.
            for budget in (None, catalogue.price_range()[0]):
                desk.set_budget(budget)
                self.assertEqual(desk.price_range(), catalogue.price_range())
                self.assertEqual(desk.cheapest(), catalogue.cheapest())
                self.assertEqual(desk.product_count(), catalogue.product_count())
                self.assertEqual(desk.first_products(), catalogue.first_products())
                self.assertEqual(
                    desk.first_products(many=3, most=4), catalogue.first_products(many=3, most=4)
                )
            self.assertIs(catalogue.cheapest() in desk, True)

    def test_they_raise_the_same_errors(self):
        catalogue = Catalogue(row_definition((3, 3, 3, 3)))
        desk = Configuration(catalogue)
        for ask in (catalogue, desk):
            with self.assertRaises(errors.TooManyParts) as caught:
                ask.cheapest()
            self.assertEqual(caught.exception.count, 121)
            self.assertEqual(ask.price_range(), (121, 121))
            self.assertEqual(ask.first_products(), ())

    def test_several_configurations_of_one_catalogue(self):
        one, other = Configuration(LAMP), Configuration(LAMP)
        one.choose(TOP, "component", "arm")
        other.set_budget(40)
        self.assertEqual(state_of(other), ((), (), 40, 1, (("set_budget", 40),), 0, ()))
        self.assertEqual(one.offers(TOP, "length"), ((1, 48), (2, 53)))
        self.assertEqual(other.offers(TOP, "component"), (("bulb", 36),))
        one.undo()
        self.assertEqual(other.changes, 1)
        self.assertEqual(one.offers(TOP, "component"), (("arm", 48), ("adapter", 45), ("bulb", 36)))
        third = Configuration(LAMP)
        self.assertEqual(state_of(third), ((), (), None, 0, (), 0, ()))

    def test_questions_change_nothing(self):
        desk = self.full()
        before = state_of(desk)
        for _ in range(2):
            answers = (
                desk.offers(TOP, "length"), desk.names_at(TOP), desk.slots_at(TOP), desk.witness(TOP, "length", 2),
                desk.explanation(TOP, "length", 1), desk.price_range(), desk.cheapest(), desk.product_count(),
                desk.first_products(), STAND in desk,
            )
            self.assertEqual(state_of(desk), before)
            self.assertTrue(is_plain(answers[:4] + answers[5:9]))
        self.assertEqual(answers[4], ((TOP, "length", 2),))


class TestJournal(TestCase):
    def test_entries(self):
        desk = Configuration(LAMP)
        desk.choose(TOP, "component", "arm")
        desk.set_budget(60)
        desk.exchange(TOP, "component", "bulb")
        desk.undo()
        self.refuse(desk, errors.NotAvailable, "choose", TOP, "length", 7)
        desk.retract(TOP, "component")
        desk.set_budget(None)
        expected = (
            ("choose", TOP, "component", "arm"), ("set_budget", 60), ("exchange", TOP, "component", "bulb"), ("undo",),
            ("retract", TOP, "component"), ("set_budget", None),
        )
        self.assertEqual(desk.journal, expected)
        self.assertTrue(is_plain(desk.journal))
        for _ in range(4):
            desk.undo()
        self.assertIs(desk.undo(), False)
        self.assertEqual(desk.journal, expected + (("undo",),) * 4)


class TestByChance(TestCase):
    PATHS = ((), ("left",), ("right",), ("left", "inner"), ("right", "inner"), ("left", "gap"), ("inner",))
    NAMES = ("component", "component", "plug.size", "left.size", "right.size", "color", "inner.level", "plug.level")

    def step(self, chance, desk, model):
        """Carry out a random call, and compare what it does with the model."""
        path, name = chance.choice(self.PATHS), chance.choice(self.NAMES)
        value = chance.choice(candidates_of(RACK, name) + ("none",))
        method, arguments = chance.choice((
            ("choose", (path, name, value)), ("choose", (path, name, value)), ("choose", (path, name, value)),
            ("exchange", (path, name, value)), ("exchange", (path, name, value)), ("retract", (path, name)),
            ("set_budget", (chance.choice((None, None, 12, 15, 20, 25, 30)),)), ("undo", ()),
        ))
        expected = getattr(model, method)(*arguments)
        if isinstance(expected, type):
            self.refuse(desk, expected, method, *arguments)
        else:
            self.assertEqual(getattr(desk, method)(*arguments), expected)
        return expected

    def compare(self, desk, model, path, name, value):
        """Compare all answers with the model."""
        self.assertEqual(desk.choices, tuple(model.choices))
        self.assertEqual((desk.budget, desk.changes), (model.budget, len(model.past)))
        self.assertEqual(desk.offers(path, name), model.offers(path, name))
        self.assertEqual(desk.names_at(path), model.names_at(path))
        self.assertEqual(desk.slots_at(path), model.slots_at(path))
        self.assertEqual(desk.witness(path, name, value), model.witness(path, name, value))
        self.assertEqual(desk.explanation(path, name, value), model.explanation(path, name, value))
        free = model.fitting(model.choices, None)
        self.assertEqual(desk.price_range(), (free[0][0], free[-1][0]))
        self.assertEqual(desk.cheapest(), free[0][2])
        self.assertEqual(desk.product_count(), len(free))
        self.assertEqual(desk.first_products(many=5), tuple(product for _, _, product in free[:5]))

    def test_against_all_products(self):
        seen = {}
        for seed in range(12):
            chance = random.Random(seed)
            desk, model = Configuration(RACK), Model(RACK, 7)
            for _ in range(40):
                done = self.step(chance, desk, model)
                seen[done if isinstance(done, type) else str(done)[:9]] = True
                path, name = chance.choice(self.PATHS), chance.choice(self.NAMES)
                self.compare(desk, model, path, name, chance.choice(candidates_of(RACK, name) + ("none",)))
            remaining = model.remaining()
            for product in model.products[::5]:
                self.assertIs(product[2] in desk, product in remaining)
        for error in (errors.AlreadyChosen, errors.NotAvailable, errors.NotChosen, errors.NothingWithinBudget):
            self.assertIn(error, seen)


if __name__ == "__main__":
    unittest.main()
