"""Tests of slotwise/journals.py: point 366."""

import random
import unittest

from slotwise.catalogues import Catalogue
from slotwise.choices import candidates_of
from slotwise.configurations import Configuration
from slotwise.errors import NoProducts, NotReplayable, SlotError
from slotwise.journals import replayed
from tests.helpers import LAMPS, RACKS

LAMP = Catalogue(LAMPS)
RACK = Catalogue(RACKS)
TOP = ("top",)
ARM = ("choose", TOP, "component", "arm")
UNDO = ("undo",)


class TestReplayed(unittest.TestCase):
    def refuse(self, place, *entries):
        """Check that the entry at this place cannot be carried out."""
        with self.assertRaises(NotReplayable) as caught:
            replayed(LAMP, entries)
        self.assertEqual(vars(caught.exception), {"place": place})

    def test_examples(self):
        entries = (("choose", TOP, "component", "adapter"), ("set_budget", 45), UNDO)
        desk = replayed(LAMP, entries)
        self.assertEqual(desk.choices, ((TOP, "component", "adapter"),))
        self.assertIsNone(desk.budget)
        self.refuse(1, ("set_budget", 40), ("choose", TOP, "component", "adapter"))

    def test_the_empty_journal(self):
        desk = replayed(LAMP, ())
        self.assertIs(desk.catalogue, LAMP)
        self.assertEqual((desk.choices, desk.budget, desk.changes, desk.journal), ((), None, 0, ()))

    def test_no_products(self):
        nothing = Catalogue((LAMPS[0], LAMPS[1][:3], "whole"))
        for journal in ((), (UNDO,), (ARM,)):
            with self.assertRaises(NoProducts):
                replayed(nothing, journal)

    def test_each_entry(self):
        entries = (
            ARM, ("set_budget", 60), ("exchange", TOP, "component", "bulb"), UNDO, ("retract", TOP, "component"),
            ("set_budget", None), ("choose", (), "top.size", "large"), UNDO, UNDO, ("exchange", TOP, "length", 2),
        )
        desk = replayed(LAMP, entries)
        self.assertEqual(desk.journal, entries)
        self.assertEqual((desk.choices, desk.budget, desk.changes), (((TOP, "length", 2),), 60, 4))

    def test_entries_that_raise_an_error(self):
        self.refuse(1, ARM, ARM)
        self.refuse(0, ("choose", TOP, "component", "clamp"), ARM)
        self.refuse(2, ARM, ("retract", TOP, "component"), ("retract", TOP, "component"), UNDO)
        self.refuse(1, ARM, ("set_budget", 47))
        self.refuse(3, ARM, UNDO, ARM, ("exchange", ("end",), "component", "arm"))
        self.refuse(20, *((("set_budget", None),) * 21))
        self.assertEqual(replayed(LAMP, (("set_budget", None),) * 20).changes, 20)

    def test_an_undo_that_finds_nothing(self):
        self.refuse(0, UNDO)
        self.refuse(2, ARM, UNDO, UNDO, ARM)
        self.refuse(3, ARM, ("set_budget", 50), UNDO, ARM, UNDO)
        self.refuse(4, ARM, ("set_budget", 50), UNDO, UNDO, UNDO)

    def test_undone_changes_make_room(self):
        entries = ((("set_budget", None),) * 20 + (UNDO,) * 20) * 5
        desk = replayed(LAMP, entries)
        self.assertEqual((len(desk.journal), desk.changes), (200, 0))
        self.assertEqual(desk.journal, entries)

    def test_the_result_goes_on(self):
        desk = replayed(LAMP, (ARM,))
        desk.choose(TOP, "length", 1)
        self.assertEqual(desk.journal, (ARM, ("choose", TOP, "length", 1)))
        self.assertIs(desk.undo(), True)
        self.assertIs(desk.undo(), True)
        self.assertEqual(replayed(LAMP, (ARM,)).journal, (ARM,))

    def test_journals_that_configurations_made(self):
        paths = ((), ("left",), ("right",), ("left", "inner"))
        names = ("component", "plug.size", "left.size", "color")
        for seed in range(15):
            chance = random.Random(seed)
            desk = Configuration(RACK)
            for _ in range(30):
                path, name = chance.choice(paths), chance.choice(names)
                value = chance.choice(candidates_of(RACK, name))
                method, arguments = chance.choice((
                    ("choose", (path, name, value)), ("exchange", (path, name, value)), ("retract", (path, name)),
                    ("set_budget", (chance.choice((None, 15, 20, 25)),)), ("undo", ()),
                ))
                try:
                    getattr(desk, method)(*arguments)
                except SlotError:
                    pass
            again = replayed(RACK, desk.journal)
            self.assertEqual(again.journal, desk.journal)
            self.assertEqual(
                (again.choices, again.demands, again.budget, again.changes),
                (desk.choices, desk.demands, desk.budget, desk.changes),
            )
            while again.undo():
                desk.undo()
                self.assertEqual((again.choices, again.budget), (desk.choices, desk.budget))

    def test_another_catalogue(self):
        self.assertEqual(replayed(LAMP, (ARM,)).choices, ((TOP, "component", "arm"),))
        with self.assertRaises(NotReplayable) as caught:
            replayed(RACK, (("set_budget", None), ARM))
        self.assertEqual(caught.exception.place, 1)
        self.assertEqual(replayed(LAMP, (ARM,)).choices, ((TOP, "component", "arm"),))


if __name__ == "__main__":
    unittest.main()
