"""What the tests share: example families, families by chance, and trees found by trying everything."""

import random

STANDS = (4, (0,), (
    (0, (1,), 30), (0, (2,), 35), (1, (1,), 12), (2, (2,), 12), (1, (1,), 17),
    (2, (2,), 17), (2, (1,), 4), (1, (), 6), (2, (), 15), (3, (), 1),
))
FIXED = (4, (0,), ((0, (1,), 30), (0, (2,), 35), (2, (1,), 4), (1, (), 6), (2, (), 15), (3, (), 1)))
FORKS = (1, (0,), ((0, (0, 0), 2), (0, (), 1)))
NOTHING = (3, (), ())
EMPTY_SLOTS = (2, (0,), ((0, (1,), 2), (1, (0,), 3), (1, (), None)))


def row_family(needs, price=0):
    """States in a row: state k needs state k + 1 as often as `needs[k]` tells; the last one needs nothing."""
    variants = [(state, (state + 1,) * many, price) for state, many in enumerate(needs)]
    variants.append((len(needs), (), price))
    return (len(needs) + 1, (0,), tuple(variants))


def row_of_100():
    """A row whose only product has exactly 100 parts."""
    return row_family((3, 2, 3, 2, 1))


def row_of_101():
    """A row whose only product has exactly 101 parts."""
    return row_family((2, 1, 3, 3, 2, 1))


def long_row(price=0):
    """A row of 40 states whose only product has (3 ** 40 - 1) / 2 parts."""
    return row_family((3,) * 39, price)


LONG_ROW_PARTS = (3 ** 40 - 1) // 2


def families_by_chance(many, *, states=3, variants=7, slots=2, low=0, high=4, seed=1):
    """Different small families, the same ones in each run; some variants are missing."""
    chance = random.Random(seed)
    for _ in range(many):
        count = chance.randint(1, states)
        roots = tuple(state for state in range(count) if chance.random() < 0.6)
        rows = []
        for _ in range(chance.randint(0, variants)):
            inside = tuple(chance.randrange(count) for _ in range(chance.choice((0, 0, 1, 1, slots, slots))))
            price = None if chance.random() < 0.15 else chance.randint(low, high)
            rows.append((chance.randrange(count), inside, price))
        yield (count, roots, tuple(rows))


def fillings(found, slots, parts):
    """All ways to fill the slots with this number of parts, by all trees of each size."""
    if not slots:
        return [()] if parts == 0 else []
    return [
        tree + rest
        for first in range(1, parts + 1)
        for tree in found[slots[0]][first]
        for rest in fillings(found, slots[1:], parts - first)
    ]


def trees_by_size(family, most):
    """For each state and each number of parts up to `most` all trees, ascending."""
    count, _, variants = family
    found = [[[] for _ in range(most + 1)] for _ in range(count)]
    for parts in range(1, most + 1):
        for number, (plug, slots, price) in enumerate(variants):
            if price is not None:
                found[plug][parts].extend((number,) + rest for rest in fillings(found, slots, parts - 1))
    return found


def all_trees(family, state, most):
    """All trees at the state with at most `most` parts."""
    return [tree for trees in trees_by_size(family, most)[state] for tree in trees]


def all_products(family, most):
    """All products with at most `most` parts."""
    found = trees_by_size(family, most)
    return [tree for root in family[1] for trees in found[root] for tree in trees]


def rank(family, tree):
    """What the order of trees compares."""
    return (sum(family[2][number][2] for number in tree), len(tree), tree)


def in_order(family, trees):
    """The trees in the order of trees."""
    return sorted(trees, key=lambda tree: rank(family, tree))


def is_plain(value):
    """Whether the value consists of tuples, plain integers, strings and None."""
    if isinstance(value, tuple):
        return all(is_plain(item) for item in value)
    return value is None or type(value) in (int, str)


def check_independent(case, ask, one, other):
    """Check that the answers depend on the arguments alone: ask of one, of another one, of the first again."""
    first = ask(*one)
    second = ask(*other)
    case.assertEqual(ask(*one), first)
    case.assertEqual(ask(*other), second)
    case.assertNotEqual(first, second)


def variable(name):
    """The expression that is this variable."""
    return ("variable", name)


# The definition of point 65; its conditions are `wood = "oak" implies shelves < 3`, `shelves > 0`
# and `wood = "oak" and plug.width * 2 > 178`.
OAK = ("=", variable("wood"), ("option", "oak"))
WOOD = ("wood", ("options", ("oak", "pine")))
SHELVES = ("shelves", ("range", 0, 3))
WIDTH = ("width", ("range", 88, 90))
RULE = ("implies", OAK, ("<", variable("shelves"), ("number", 3)))
TABLE = (("plug.width", "shelves"), ((88, 0), (88, 2), (90, 2), (90, 3), (100, 1)))
WIDE_CHARGE = ("and", OAK, (">", ("*", variable("plug.width"), ("number", 2)), ("number", 178)))
CHARGES = (((">", variable("shelves"), ("number", 0)), 15), (WIDE_CHARGE, 60))
CABINET = ("cabinet", "niche", (WOOD, SHELVES), (), (RULE,), (TABLE,), 200, CHARGES)
CABINETS = ((("niche", (WIDTH,)),), (CABINET,), "niche")

# The lamp stands of point 3.
SIZE = ("size", ("options", ("small", "large")))
SAME_SIZE = ("=", variable("plug.size"), variable("end.size"))
LARGE_PLUG = ("=", variable("plug.size"), ("option", "large"))
LAMPS = (
    (("whole", ()), ("joint", (SIZE,)), ("rail", ())),
    (
        ("stand", "whole", (), (("top", "joint"),), (), (), 30, ((("=", variable("top.size"), ("option", "large")), 5),)),
        ("arm", "joint", (("length", ("range", 1, 2)),), (("end", "joint"),), (SAME_SIZE,), (), 12,
         ((("=", variable("length"), ("number", 2)), 5),)),
        ("adapter", "joint", (), (("end", "joint"),),
         (("and", LARGE_PLUG, ("=", variable("end.size"), ("option", "small"))),), (), 4, ()),
        ("bulb", "joint", (), (), (), (), 6, ((LARGE_PLUG, 9),)),
        ("clamp", "rail", (), (), (), (), 1, ()),
    ),
    "whole",
)
