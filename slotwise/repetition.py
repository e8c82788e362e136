"""Ways between states, and what can be repeated in products [220] to [223]."""

from slotwise.errors import NotInside, StatesDiffer
from slotwise.families import check_parts, groups_of, is_cyclic, links_of
from slotwise.least import first_variants, grown, least_weights
from slotwise.trees import span_of
from slotwise.useful import useful_variants


def first_way(family, starts, goal, *, least=0):
    """The first of all ways with at least `least` steps from one of the starts to the goal, None if there is none."""
    if least == 0 and goal in starts:
        return ()
    rows = _steps_by_state(family)
    far = _distances(rows, goal)
    reaching = [(far[step[2]], start) for start in starts for step in rows[start] if far[step[2]] is not None]
    if not reaching:
        return None
    left, state = min(reaching)
    way = []
    while left >= 0:
        number, slot, state = _first_step(rows[state], far, left)
        way.append((number, slot))
        left -= 1
    return tuple(way)


def find_repetition(family):
    """The repetition of the family, None if there are finitely many products."""
    state = _least_repeated(family)
    if state is None:
        return None
    down = first_way(family, family[1], state)
    around = first_way(family, (state,), state, least=1)
    weights = least_weights(family)
    ahead, behind = _parts_beside(family, weights, down + around)
    check_parts(ahead + weights[state][1] + behind)
    outer = _parts_beside(family, weights, down)[0]
    chosen = first_variants(family, weights)
    return (_tree_along(family, chosen, down + around, state), outer, ahead)


def repeat_part(family, tree, outer, inner, times):
    """The tree in which what belongs to the part `outer`, but not to `inner`, occurs `times` times."""
    outer_end = outer + span_of(family, tree, outer)
    inner_end = inner + span_of(family, tree, inner)
    if not outer < inner < outer_end:
        raise NotInside("the one part is not inside the other one")
    if family[2][tree[outer]][0] != family[2][tree[inner]][0]:
        raise StatesDiffer("the two parts have different states")
    ahead = tree[outer:inner]
    behind = tree[inner_end:outer_end]
    check_parts(len(tree) + (times - 1) * (len(ahead) + len(behind)))
    return tree[:outer] + ahead * times + tree[inner:inner_end] + behind * times + tree[outer_end:]


def _steps_by_state(family):
    """For each state its steps (number, slot, state of the slot), ascending."""
    rows = [[] for _ in range(family[0])]
    for number in useful_variants(family):
        plug, slots, _ = family[2][number]
        rows[plug].extend([(number, slot, state) for slot, state in enumerate(slots)])
    return rows


def _distances(rows, goal):
    """For each state the number of steps of the shortest ways to the goal, None if there is none."""
    sources = [[] for _ in rows]
    for state, row in enumerate(rows):
        for step in row:
            sources[step[2]].append(state)
    far = [None] * len(rows)
    far[goal] = 0
    layer = [goal]
    while layer:
        further = []
        for state in list(layer):
            for source in sources[state]:
                if far[source] is None:
                    far[source] = far[state] + 1
                    further.append(source)
        layer = further
    return far


def _first_step(row, far, left):
    """The first step of the row to a state at this distance from the goal."""
    return min([step for step in row if far[step[2]] == left])


def _least_repeated(family):
    """The least state that a part of some product and a part inside it have, None if there is none."""
    links = links_of(family, useful_variants(family))
    repeated = [group[0] for group in groups_of(links) if is_cyclic(links, group)]
    return min(repeated, default=None)


def _parts_beside(family, weights, way):
    """How many parts stand ahead of the part at the end of the way, and how many behind its tree.

    All slots beside the way contain first trees.
    """
    ahead = 0
    behind = 0
    for number, at in way:
        sizes = [weights[state][1] for state in family[2][number][1]]
        ahead += 1 + sum(sizes[:at])
        behind += sum(sizes[at + 1:])
    return ahead, behind


def _tree_along(family, chosen, way, state):
    """The tree with the way from its root to a part with this state, and with first trees everywhere else."""
    tree = grown(family, chosen, state)
    for number, at in way[::-1]:
        slots = family[2][number][1]
        parts = [number]
        for slot, other in enumerate(slots):
            parts.extend(tree if slot == at else grown(family, chosen, other))
        tree = tuple(parts)
    return tree
