"""Specialised families, and the least and first products that satisfy demands [282]."""

from slotwise.demands import paths_of
from slotwise.least import cheapest, least_weights


def specialised(family, names, demands):
    """The specialised family for the demands."""
    count, roots, variants = family
    paths = paths_of(demands)
    blocks = {path: block for block, path in enumerate(paths, start=1)}
    rows = list(variants)
    for path in paths:
        rows.extend(_block(family, names, demands, blocks, path))
    return (count * (1 + len(paths)), tuple([root + count for root in roots]), tuple(rows))


def least_with(family, names, demands):
    """The least price of the products that satisfy all demands, None if there is none."""
    narrowed = specialised(family, names, demands)
    weights = least_weights(narrowed)
    return min([weights[root][0] for root in narrowed[1] if weights[root] is not None], default=None)


def first_with(family, names, demands):
    """The first one of the products that satisfy all demands, None if there is none."""
    tree = cheapest(specialised(family, names, demands))
    return None if tree is None else without_blocks(family, tree)


def without_blocks(family, tree):
    """The tree of the family for a tree of one of its specialised families."""
    return tuple([number % len(family[2]) for number in tree])


def least_prices_at(family, names, demands, path):
    """For each variant the least price of the products that satisfy all demands and have it at the path, or None."""
    many = len(family[2])
    asked = demands + ((path, tuple(range(many))),)
    narrowed = specialised(family, names, asked)
    paths = paths_of(asked)
    weights = least_weights(narrowed)
    # For a state in the block of a path: the least price of what belongs to a product, but not to
    # the tree of its part at the path. On the way down to the path each block is met once.
    around = [None] * narrowed[0]
    for root in narrowed[1]:
        around[root] = 0
    for length, name in enumerate(path):
        first = many * (1 + paths.index(path[:length]))
        prices = _prices_through(narrowed, weights, around, first, many)
        for number, price in enumerate(prices):
            if price is not None:
                state = narrowed[2][first + number][1][names[number].index(name)]
                rest = price - weights[state][0]
                around[state] = rest if around[state] is None else min(around[state], rest)
    return _prices_through(narrowed, weights, around, many * (1 + paths.index(path)), many)


def _block(family, names, demands, blocks, path):
    """The copies of all variants in the block of the path."""
    count, _, variants = family
    shift = count * blocks[path]
    needed = [longer[-1] for longer in blocks if longer and longer[:-1] == path]
    allowed = _allowed(demands, path, len(variants))
    rows = []
    for number, (plug, slots, price) in enumerate(variants):
        inside = [state + count * blocks.get(path + (name,), 0) for state, name in zip(slots, names[number])]
        fits = allowed[number] and all([name in names[number] for name in needed])
        rows.append((plug + shift, tuple(inside), price if fits else None))
    return rows


def _allowed(demands, path, many):
    """For each of the variants whether all demands for just this path allow it."""
    asked = [numbers for other, numbers in demands if other == path]
    agreeing = [0] * many
    for numbers in asked:
        for number in numbers:
            agreeing[number] += 1
    return [times == len(asked) for times in agreeing]


def _prices_through(narrowed, weights, around, first, many):
    """For each variant of a block, whose first one is given, the least price of the products with it, or None."""
    prices = []
    for plug, slots, price in narrowed[2][first:first + many]:
        inside = [weights[state] for state in slots]
        if price is None or around[plug] is None or None in inside:
            prices.append(None)
        else:
            prices.append(around[plug] + price + sum([weight[0] for weight in inside]))
    return prices
