"""Certificates: what shows that demands are feasible, that they are not, or what is the least price [304]."""

from slotwise.demands import satisfies
from slotwise.explanations import is_feasible
from slotwise.special import first_with, specialised
from slotwise.transfer import is_floor, least_prices
from slotwise.trees import is_product, price_of


def certificate_of(family, names, demands, budget):
    """A sound certificate that the demands are feasible within the budget, or that they are not."""
    if is_feasible(family, names, demands, budget):
        return ("feasible", first_with(family, names, demands))
    return ("infeasible", least_prices(specialised(family, names, demands)))


def least_certificate(family, names, demands):
    """A sound certificate of the least price of the products that satisfy the demands, None if there are none."""
    tree = first_with(family, names, demands)
    if tree is None:
        return None
    return ("least", tree, least_prices(specialised(family, names, demands)))


def is_sound(family, names, demands, budget, certificate):
    """Whether the certificate is sound, whoever made it."""
    form = certificate[0]
    if form == "infeasible":
        roots = _root_prices(family, names, demands, certificate[1])
        return roots is not None and all([budget is not None and price > budget for price in roots])
    tree = certificate[1]
    if not is_product(family, tree) or not satisfies(family, names, tree, demands):
        return False
    own = price_of(family, tree)
    if form == "feasible":
        return budget is None or own <= budget
    roots = _root_prices(family, names, demands, certificate[2])
    return roots is not None and all([price >= own for price in roots])


def _root_prices(family, names, demands, table):
    """The prices that a floor of the specialised family has for its roots, None if the table is no floor."""
    narrowed = specialised(family, names, demands)
    if not is_floor(narrowed, table):
        return None
    return [table[root] for root in narrowed[1] if table[root] is not None]
