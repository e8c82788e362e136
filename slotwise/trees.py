"""Trees: what is one, its price, its parts and their places, and the order of trees [102] to [105]."""

from slotwise.families import check_parts


def is_tree(family, state, tree):
    """Whether the tuple is a tree at the state."""
    variants = family[2]
    waiting = [state]
    for number in tree:
        if not waiting or number < 0 or number >= len(variants):
            return False
        plug, slots, price = variants[number]
        if price is None or plug != waiting.pop():
            return False
        waiting.extend(slots[::-1])
    return not waiting


def is_product(family, tree):
    """Whether the tuple is a product."""
    return any([is_tree(family, root, tree) for root in family[1]])


def price_of(family, tree):
    """The price of the tree."""
    return sum([family[2][number][2] for number in tree])


def span_of(family, tree, number):
    """The number of parts of the tree of the part with this number."""
    waiting = 1
    at = number
    while waiting > 0:
        waiting = waiting - 1 + len(family[2][tree[at]][1])
        at += 1
    return at - number


def places_of(family, tree):
    """The places of all parts, in order."""
    places = []
    waiting = [(None, None)]
    for number, variant in enumerate(tree):
        places.append(waiting.pop())
        slots = family[2][variant][1]
        waiting.extend([(number, slot) for slot in range(len(slots))][::-1])
    return tuple(places)


def with_part(family, tree, number, other):
    """The tree in which `other` stands instead of the tree of the part with this number."""
    behind = number + span_of(family, tree, number)
    check_parts(len(tree) - behind + number + len(other))
    return tree[:number] + other + tree[behind:]


def comes_before(family, first, second):
    """Whether the first tree comes before the second one in the order of trees."""
    return _rank(family, first) < _rank(family, second)


def _rank(family, tree):
    """What the order of trees compares."""
    return price_of(family, tree), len(tree), tree
