"""Configurations: choices for the parts of the products of a catalogue, with a budget [361] to [366]."""

from slotwise.catalogues import tree_by_names
from slotwise.choices import candidates_of, demand_of
from slotwise.counting import product_count
from slotwise.demands import satisfies
from slotwise.domains import variables_of
from slotwise.errors import (
    AlreadyChosen,
    NoProducts,
    NotAvailable,
    NotChosen,
    NothingWithinBudget,
    TooManyChanges,
    TooManyChoices,
)
from slotwise.explanations import explanation_of, is_feasible, kept_of
from slotwise.greatest import price_range
from slotwise.ranking import first_products
from slotwise.special import first_with, least_prices_at, specialised, without_blocks
from slotwise.trees import price_of

MOST_CHANGES = 20
MOST_CHOICES = 8


class Configuration:
    """A configuration of a catalogue."""

    def __init__(self, catalogue):
        if not is_feasible(catalogue.family, catalogue.slot_names, (), None):
            raise NoProducts("the catalogue has no products")
        self._catalogue = catalogue
        self._family = catalogue.family
        self._slot_names = catalogue.slot_names
        self._choices = ()
        self._demands = ()
        self._budget = None
        self._earlier = []
        self._entries = []

    @property
    def catalogue(self):
        """The catalogue of the configuration."""
        return self._catalogue

    @property
    def choices(self):
        """The choices, in the order in which they were made."""
        return self._choices

    @property
    def demands(self):
        """The demands of the choices, in the same order."""
        return self._demands

    @property
    def budget(self):
        """The budget, None if there is none."""
        return self._budget

    @property
    def changes(self):
        """The number of changes that can be undone."""
        return len(self._earlier)

    @property
    def journal(self):
        """The entries for all changes and undoings, in order."""
        return tuple(self._entries)

    def __len__(self):
        return len(self._choices)

    def __iter__(self):
        return iter(self._choices)

    def __contains__(self, product):
        tree = tree_by_names(self._catalogue, product)
        if tree is None or not _is_within(price_of(self._family, tree), self._budget):
            return False
        return satisfies(self._family, self._slot_names, tree, self._demands)

    def choose(self, path, name, value):
        """Add the choice at the end."""
        self._check_changes()
        if len(self._others(path, name)) < len(self._choices):
            raise AlreadyChosen("there is a choice for the same thing")
        if len(self._choices) >= MOST_CHOICES:
            raise TooManyChoices("there are too many choices")
        choice = (path, name, value)
        if not self._allows(self._demands_with(choice), self._budget):
            raise NotAvailable("the choice holds of no remaining product")
        self._change(("choose",) + choice, self._choices + (choice,), self._budget)

    def retract(self, path, name):
        """Remove the choice for this path and this name."""
        self._check_changes()
        others = self._others(path, name)
        if len(others) == len(self._choices):
            raise NotChosen("there is no choice for this thing")
        self._change(("retract", path, name), others, self._budget)

    def exchange(self, path, name, value):
        """Make the choice even if it is not available; returns the choices that are thrown out for it."""
        self._check_changes()
        others = self._others(path, name)
        if len(others) >= MOST_CHOICES:
            raise TooManyChoices("there are too many choices")
        choice = (path, name, value)
        demand = demand_of(self._catalogue, choice)
        kept = kept_of(self._family, self._slot_names, self._demands_of(others), demand, self._budget)
        if kept is None:
            raise NotAvailable("the choice holds of no product within the budget")
        previous = self._choices
        chosen = tuple([others[number] for number in kept]) + (choice,)
        self._change(("exchange",) + choice, chosen, self._budget)
        return tuple([other for other in previous if other not in chosen])

    def set_budget(self, budget):
        """Set the budget; None removes it."""
        self._check_changes()
        if not self._allows(self._demands, budget):
            raise NothingWithinBudget("no product within the budget satisfies all choices")
        self._change(("set_budget", budget), self._choices, budget)

    def undo(self):
        """Undo the last change, and tell whether there was one."""
        if not self._earlier:
            return False
        self._choices, self._demands, self._budget = self._earlier.pop()
        self._entries.append(("undo",))
        return True

    def offers(self, path, name):
        """The pairs of each available value and its least price."""
        prices = self._prices_at(path)
        found = []
        for value in candidates_of(self._catalogue, name):
            allowed = demand_of(self._catalogue, (path, name, value))[1]
            least = min([prices[number] for number in allowed if prices[number] is not None], default=None)
            if least is not None:
                found.append((value, least))
        return tuple(found)

    def names_at(self, path):
        """The names that have an available value at the path."""
        present = self._components_at(path)
        definition = self._catalogue.definition
        rows = []
        for component in definition[1]:
            variables = variables_of(definition, component[0])
            rows.append((component[0], [name for name, _ in variables]))
        return ("component",) + _names_in(rows, present) if present else ()

    def slots_at(self, path):
        """The names of the slots that the part at the path has in some remaining product."""
        components = self._catalogue.definition[1]
        rows = [(component[0], [name for name, _ in component[3]]) for component in components]
        return _names_in(rows, self._components_at(path))

    def witness(self, path, name, value):
        """The first one of the remaining products of which the choice holds, None if there is none."""
        demands = self._demands_with((path, name, value))
        if not self._allows(demands, self._budget):
            return None
        return self._catalogue.product_of(first_with(self._family, self._slot_names, demands))

    def explanation(self, path, name, value):
        """The choices because of which the choice holds of no remaining product, None if it holds of one."""
        demand = demand_of(self._catalogue, (path, name, value))
        numbers = explanation_of(self._family, self._slot_names, self._demands, demand, self._budget)
        return None if numbers is None else tuple([self._choices[number] for number in numbers])

    def price_range(self):
        """The least and the greatest price of the products that satisfy the choices."""
        return price_range(self._narrowed())

    def cheapest(self):
        """The cheapest product that satisfies the choices."""
        return self._catalogue.product_of(first_with(self._family, self._slot_names, self._demands))

    def product_count(self):
        """The number of products that satisfy the choices, None if there are infinitely many."""
        return product_count(self._narrowed())

    def first_products(self, *, many=10, most=8):
        """The first products that satisfy the choices and have at most `most` parts."""
        trees = first_products(self._narrowed(), many=many, most=most)
        return tuple([self._catalogue.product_of(without_blocks(self._family, tree)) for tree in trees])

    def _check_changes(self):
        """Raise TooManyChanges if no further change can be kept."""
        if len(self._earlier) >= MOST_CHANGES:
            raise TooManyChanges("there are too many changes")

    def _others(self, path, name):
        """The choices that are not for this path and this name."""
        return tuple([choice for choice in self._choices if choice[:2] != (path, name)])

    def _demands_of(self, choices):
        """The demands of the choices."""
        return tuple([demand_of(self._catalogue, choice) for choice in choices])

    def _demands_with(self, choice):
        """The demands of the present choices and of a further one."""
        return self._demands + self._demands_of((choice,))

    def _allows(self, demands, budget):
        """Whether some product within the budget satisfies the demands."""
        return is_feasible(self._family, self._slot_names, demands, budget)

    def _change(self, entry, choices, budget):
        """Carry out a change that is allowed."""
        self._earlier.append((self._choices, self._demands, self._budget))
        self._choices = choices
        self._demands = self._demands_of(choices)
        self._budget = budget
        self._entries.append(entry)

    def _narrowed(self):
        """The specialised family of the choices."""
        return specialised(self._family, self._slot_names, self._demands)

    def _prices_at(self, path):
        """For each variant the least price of the remaining products with it at the path, None if there is none."""
        prices = least_prices_at(self._family, self._slot_names, self._demands, path)
        return [price if price is not None and _is_within(price, self._budget) else None for price in prices]

    def _components_at(self, path):
        """The names of the components that the part at the path has in remaining products."""
        variants = self._catalogue.variants
        present = {}
        for number, price in enumerate(self._prices_at(path)):
            if price is not None:
                present[variants[number][0]] = True
        return list(present)


def _is_within(price, budget):
    """Whether a product with this price is within the budget."""
    return budget is None or price <= budget


def _names_in(rows, present):
    """The names that the components present have, in the order of their first occurrences in all rows."""
    shown = {name: True for component, names in rows if component in present for name in names}
    order = {name: True for _, names in rows for name in names}
    return tuple([name for name in order if name in shown])
