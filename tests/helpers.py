"""What the tests share: example families, families by chance, and trees found by trying everything."""

import random

STANDS = (4, (0,), (
    (0, (1,), 30), (0, (2,), 35), (1, (1,), 12), (2, (2,), 12), (1, (1,), 17),
    (2, (2,), 17), (2, (1,), 4), (1, (), 6), (2, (), 15), (3, (), 1),
))
FIXED = (4, (0,), ((0, (1,), 30), (0, (2,), 35), (2, (1,), 4), (1, (), 6), (2, (), 15), (3, (), 1)))
FORKS = (1, (0,), ((0, (0, 0), 2), (0, (), 1)))
NOTHING = (3, (), ())
EMPTY_SLOTS = (2, (0,), ((0, (1,), 2), (1, (0,), 3), (1, (), None)))


def row_family(needs, price=0):
    """States in a row: state k needs state k + 1 as often as `needs[k]` tells; the last one needs nothing."""
    variants = [(state, (state + 1,) * many, price) for state, many in enumerate(needs)]
    variants.append((len(needs), (), price))
    return (len(needs) + 1, (0,), tuple(variants))


def row_of_100():
    """A row whose only product has exactly 100 parts."""
    return row_family((3, 2, 3, 2, 1))


def row_of_101():
    """A row whose only product has exactly 101 parts."""
    return row_family((2, 1, 3, 3, 2, 1))


def long_row(price=0):
    """A row of 40 states whose only product has (3 ** 40 - 1) / 2 parts."""
    return row_family((3,) * 39, price)


LONG_ROW_PARTS = (3 ** 40 - 1) // 2


def families_by_chance(many, *, states=3, variants=7, slots=2, low=0, high=4, seed=1):
    """Different small families, the same ones in each run; some variants are missing."""
    chance = random.Random(seed)
    for _ in range(many):
        count = chance.randint(1, states)
        roots = tuple(state for state in range(count) if chance.random() < 0.6)
        rows = []
        for _ in range(chance.randint(0, variants)):
            inside = tuple(chance.randrange(count) for _ in range(chance.choice((0, 0, 1, 1, slots, slots))))
            price = None if chance.random() < 0.15 else chance.randint(low, high)
            rows.append((chance.randrange(count), inside, price))
        yield (count, roots, tuple(rows))


def fillings(found, slots, parts):
    """All ways to fill the slots with this number of parts, by all trees of each size."""
    if not slots:
        return [()] if parts == 0 else []
    return [
        tree + rest
        for first in range(1, parts + 1)
        for tree in found[slots[0]][first]
        for rest in fillings(found, slots[1:], parts - first)
    ]


def trees_by_size(family, most):
    """For each state and each number of parts up to `most` all trees, ascending."""
    count, _, variants = family
    found = [[[] for _ in range(most + 1)] for _ in range(count)]
    for parts in range(1, most + 1):
        for number, (plug, slots, price) in enumerate(variants):
            if price is not None:
                found[plug][parts].extend((number,) + rest for rest in fillings(found, slots, parts - 1))
    return found


def all_trees(family, state, most):
    """All trees at the state with at most `most` parts."""
    return [tree for trees in trees_by_size(family, most)[state] for tree in trees]


def all_products(family, most):
    """All products with at most `most` parts."""
    found = trees_by_size(family, most)
    return [tree for root in family[1] for trees in found[root] for tree in trees]


def rank(family, tree):
    """What the order of trees compares."""
    return (sum(family[2][number][2] for number in tree), len(tree), tree)


def in_order(family, trees):
    """The trees in the order of trees."""
    return sorted(trees, key=lambda tree: rank(family, tree))


def is_plain(value):
    """Whether the value consists of tuples, plain integers, strings and None."""
    if isinstance(value, tuple):
        return all(is_plain(item) for item in value)
    return value is None or type(value) in (int, str)


def check_independent(case, ask, one, other):
    """Check that the answers depend on the arguments alone: ask of one, of another one, of the first again."""
    first = ask(*one)
    second = ask(*other)
    case.assertEqual(ask(*one), first)
    case.assertEqual(ask(*other), second)
    case.assertNotEqual(first, second)


def variable(name):
    """The expression that is this variable."""
    return ("variable", name)


# The definition of point 65; its conditions are `wood = "oak" implies shelves < 3`, `shelves > 0`
# and `wood = "oak" and plug.width * 2 > 178`.
OAK = ("=", variable("wood"), ("option", "oak"))
WOOD = ("wood", ("options", ("oak", "pine")))
SHELVES = ("shelves", ("range", 0, 3))
WIDTH = ("width", ("range", 88, 90))
RULE = ("implies", OAK, ("<", variable("shelves"), ("number", 3)))
TABLE = (("plug.width", "shelves"), ((88, 0), (88, 2), (90, 2), (90, 3), (100, 1)))
WIDE_CHARGE = ("and", OAK, (">", ("*", variable("plug.width"), ("number", 2)), ("number", 178)))
CHARGES = (((">", variable("shelves"), ("number", 0)), 15), (WIDE_CHARGE, 60))
CABINET = ("cabinet", "niche", (WOOD, SHELVES), (), (RULE,), (TABLE,), 200, CHARGES)
CABINETS = ((("niche", (WIDTH,)),), (CABINET,), "niche")

# The lamp stands of point 3.
SIZE = ("size", ("options", ("small", "large")))
SAME_SIZE = ("=", variable("plug.size"), variable("end.size"))
LARGE_PLUG = ("=", variable("plug.size"), ("option", "large"))
LAMPS = (
    (("whole", ()), ("joint", (SIZE,)), ("rail", ())),
    (
        ("stand", "whole", (), (("top", "joint"),), (), (), 30, ((("=", variable("top.size"), ("option", "large")), 5),)),
        ("arm", "joint", (("length", ("range", 1, 2)),), (("end", "joint"),), (SAME_SIZE,), (), 12,
         ((("=", variable("length"), ("number", 2)), 5),)),
        ("adapter", "joint", (), (("end", "joint"),),
         (("and", LARGE_PLUG, ("=", variable("end.size"), ("option", "small"))),), (), 4, ()),
        ("bulb", "joint", (), (), (), (), 6, ((LARGE_PLUG, 9),)),
        ("clamp", "rail", (), (), (), (), 1, ()),
    ),
    "whole",
)

# Racks of bays: a definition with finitely many products, with slots that compete for a place and a
# component that is never a part of a product.
LEVEL = ("level", ("range", 0, 1))
RACKS = (
    (("frame", ()), ("bay", (SIZE,)), ("hook", (LEVEL,)), ("void", ())),
    (
        ("rack", "frame", (), (("left", "bay"), ("right", "bay")),
         (("implies", ("=", variable("right.size"), ("option", "large")),
           ("=", variable("left.size"), variable("right.size"))),),
         (), 10, ((("=", variable("left.size"), ("option", "large")), 3),)),
        ("single", "frame", (), (("left", "bay"),), (), (), 4, ()),
        ("box", "bay", (("color", ("options", ("red", "blue"))),), (("inner", "hook"),),
         (("implies", ("=", variable("plug.size"), ("option", "large")),
           ("=", variable("inner.level"), ("number", 1))),),
         (), 5, ((("=", variable("color"), ("option", "blue")), 2),)),
        ("lid", "bay", (), (), (), ((("plug.size",), (("small",), ("none",))),), 2, ()),
        ("pin", "hook", (), (), (), (), 1, ((("=", variable("plug.level"), ("number", 1)), 2),)),
        ("ring", "hook", (("color", ("options", ("green", "red"))),), (), (), (), 2, ()),
        ("spare", "bay", (), (("gap", "void"),), (), (), 0, ()),
    ),
    "frame",
)


def names_by_chance(family, chance):
    """Slot names of the family: for each variant different ones of a few names, mostly the first ones."""
    names = ("a", "b", "c")
    return tuple(
        names[:len(slots)] if chance.random() < 0.6 else tuple(chance.sample(names, len(slots)))
        for _, slots, _ in family[2]
    )


def demands_by_chance(family, chance, *, most=3, longest=2):
    """Up to `most` demands for the family, with paths of at most `longest` names; mostly lenient ones."""
    demands = []
    for _ in range(chance.randint(0, most)):
        path = tuple(chance.choice("aaaaabbcx") for _ in range(chance.randint(0, longest)))
        kept = chance.choice((0.2, 0.6, 0.8, 0.9, 1))
        demands.append((path, tuple(number for number in range(len(family[2])) if chance.random() < kept)))
    return tuple(demands)


def finite_family_by_chance(chance, *, states=4, variants=12, low=0):
    """A family in which each slot needs a later state than its variant has: no tree has more than 15 parts."""
    count = chance.randint(1, states)
    rows = []
    for _ in range(chance.randint(count, variants)):
        plug = chance.randrange(count)
        many = 0 if plug == count - 1 else chance.choice((0, 1, 1, 2))
        price = None if chance.random() < 0.1 else chance.randint(low, 5)
        rows.append((plug, tuple(chance.randrange(plug + 1, count) for _ in range(many)), price))
    roots = tuple(state for state in range(count) if state == 0 or chance.random() < 0.3)
    return (count, roots, tuple(rows))


def paths_in(family, names, tree):
    """The path of each part, in the order of the parts."""
    found = []
    waiting = [()]
    for number in tree:
        path = waiting.pop()
        found.append(path)
        waiting.extend(path + (name,) for name in names[number][::-1])
    return found


def meets(family, names, tree, demands):
    """Whether the tree satisfies the demands, by the paths of all its parts."""
    at = dict(zip(paths_in(family, names, tree), tree))
    return all(path in at and at[path] in allowed for path, allowed in demands)


def expression_by_chance(chance, depth, names=("a", "b.size", "minus", "to")):
    """An expression whose operands may have wrong kinds."""
    if depth == 1 or chance.random() < 0.2:
        return chance.choice((
            ("number", chance.choice((0, 7, 999999))), ("option", chance.choice(("red", "and", "a b", "1 = (", "not"))),
            ("true",), ("false",), variable(chance.choice(names)), variable(chance.choice(names)),
        ))
    operator = chance.choice((
        "minus", "not", "not", "+", "-", "*", "+", "-", "*", "=", "!=", "<", "<=", ">", ">=", "and", "or", "implies",
        "and", "or", "implies",
    ))
    many = 1 if operator in ("minus", "not") else 2
    return (operator,) + tuple(expression_by_chance(chance, depth - 1, names) for _ in range(many))


def row_definition(needs, *, missing=False):
    """Components in a row: each one needs the next one as often as told; the last one needs nothing, or is missing."""
    ports = tuple((name, ()) for name in ("first", "second", "third", "fourth", "fifth", "sixth"))
    components = []
    for number, many in enumerate(needs + (0,)):
        slots = tuple((f"s{at}", ports[number + 1][0]) for at in range(many))
        components.append((f"c{number}", ports[number][0], (), slots, (), (), 1, ()))
    return (ports, tuple(components[:-1] if missing else components), "first")


def condition_by_chance(names, chance):
    """A condition that compares two variables with the options small and large, or one with one of them."""
    first = variable(chance.choice(names))
    second = variable(chance.choice(names)) if chance.random() < 0.5 else ("option", chance.choice(("small", "large")))
    return (chance.choice(("=", "!=")), first, second)


def definition_by_chance(chance, *, ports=(("base", ()), ("upper", (SIZE,)), ("lower", (SIZE,)))):
    """A valid definition in which each slot needs a later port kind than its component has as plug."""
    components = []
    for number in range(chance.randint(3, 6)):
        plug = 0 if number == 0 else chance.randrange(len(ports))
        many = 0 if plug == len(ports) - 1 else chance.choice((1, 1, 2))
        slots = tuple((name, ports[chance.randrange(plug + 1, len(ports))][0]) for name in ("left", "right")[:many])
        attributes = (("tint", SIZE[1]),) if chance.random() < 0.3 else ()
        names = [name for name, _ in attributes]
        names.extend(f"{slot}.size" for slot, _ in slots)
        names.extend(f"plug.{name}" for name, _ in ports[plug][1])
        rules = tuple(condition_by_chance(names, chance) for _ in range(chance.choice((0, 0, 1)) if names else 0))
        charges = tuple((condition_by_chance(names, chance), chance.randint(0, 3)) for _ in range(1 if names else 0))
        components.append((f"c{number}", ports[plug][0], attributes, slots, rules, (), chance.randint(0, 4), charges))
    return (ports, tuple(components), "base")
