"""Paths to the parts of trees, and demands for these parts [280], [281]."""

from slotwise.trees import span_of


def part_at(family, names, tree, path):
    """The number of the part at the path, None if the tree has none there."""
    number = 0
    for name in path:
        slot_names = names[tree[number]]
        if name not in slot_names:
            return None
        earlier = slot_names.index(name)
        number += 1
        for _ in range(earlier):
            number += span_of(family, tree, number)
    return number


def satisfies(family, names, tree, demands):
    """Whether the tree satisfies all demands."""
    for path, allowed in demands:
        number = part_at(family, names, tree, path)
        if number is None or tree[number] not in allowed:
            return False
    return True


def paths_of(demands):
    """The paths of the demands, shorter ones first, equally long ones ascending."""
    paths = {(): True}
    for path, _ in demands:
        for length in range(1, len(path) + 1):
            paths[path[:length]] = True
    return tuple(sorted(list(paths), key=lambda names: (len(names), names)))
