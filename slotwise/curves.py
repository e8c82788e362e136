"""Trade-offs between the number of marked parts of a product and its price [190], [191]."""

from slotwise.families import repriced
from slotwise.least import cheapest, least_weights


def curve_of(family, marked):
    """The curve of the family for the marked variants."""
    corners = sorted(_corners(family, marked))
    return tuple([(many, price, cheapest(_weighed(family, marked, scales))) for many, price, scales in corners])


def _corners(family, marked):
    """The corners: their points, each with scales by which it is the least one; in any order."""
    dearest = max([variant[2] for variant in family[2] if variant[2] is not None], default=0)
    # Scaled so, one marked part outweighs the price of every product in which nothing is repeated.
    first = _least_corner(family, marked, (_bound(family) * (dearest + 1), 1))
    if first is None:
        return []
    last = _least_corner(family, marked, (0, 1))
    if first[:2] == last[:2]:
        return [first]
    corners = [first, last]
    pending = [(first, last)]
    while pending:
        left, right = pending.pop()
        # By these scales both corners have the same sum. If it is the least one, the left corner is found again.
        between = _least_corner(family, marked, (left[1] - right[1], right[0] - left[0]))
        if between[:2] != left[:2]:
            corners.append(between)
            pending.append((left, between))
            pending.append((between, right))
    return corners


def _least_corner(family, marked, scales):
    """The corner with the least sum by the scales, and among these with the fewest marked parts, or None."""
    weights = least_weights(_weighed(family, marked, scales))
    found = [weights[root][0] for root in family[1] if weights[root] is not None]
    if not found:
        return None
    least, many = divmod(min(found), _bound(family))
    return (many, (least - scales[0] * many) // scales[1], scales)


def _weighed(family, marked, scales):
    """The family in which a product costs its sum by the scales, and a little more for each marked part.

    The sum is multiplied by so much that the number of marked parts decides only between equal sums.
    """
    places = set(marked)
    bound = _bound(family)
    prices = []
    for number, variant in enumerate(family[2]):
        many = 1 if number in places else 0
        price = variant[2]
        prices.append(None if price is None else (scales[0] * many + scales[1] * price) * bound + many)
    return repriced(family, prices)


def _bound(family):
    """More than the number of parts of every tree in which no part has a part with the same state inside."""
    return 1 << (2 * family[0])
