"""Creases of folded sheets, the leaves that they join, sewing and creep (points 30 and 31)."""

from boundbook.errors import Refused
from boundbook.packets import EDGES
from boundbook.plans import leaf_order

SPINE = "left"


def borders_of(leaf):
    """Return the panels that follow in row and in column, each with the edge of the border with it."""
    sheet, row, column, is_mirrored, is_turned = leaf
    return [
        ("left" if is_mirrored else "right", (sheet, row, column + 1)),
        ("top" if is_turned else "bottom", (sheet, row + 1, column)),
    ]


def creases_between(leaves):
    """Return the ordered list of the creases between leaves whose sheets are not cut."""
    numbers = {leaf[:3]: number for number, leaf in enumerate(leaves)}
    found = []
    for number, leaf in enumerate(leaves):
        for edge, panel in borders_of(leaf):
            if panel in numbers:
                other = numbers[panel]
                found.append((EDGES.index(edge), min(number, other), max(number, other)))
    return [(EDGES[place], first, second) for place, first, second in sorted(found)]


def uncut_leaves(plan):
    """Return the leaves of a complete plan that neither cuts nor stacks; raise Refused for others."""
    leaves = leaf_order(plan)
    if any([instruction[0] in ("cut", "stack") for instruction in plan]):
        raise Refused("plan has cuts")
    return leaves


def creases(plan):
    """Return the ordered list of the creases of a plan."""
    return creases_between(uncut_leaves(plan))


def sewn_pairs(leaves):
    """Return the list of the pairs of leaves that a crease at the spine joins."""
    return [(first, second) for edge, first, second in creases_between(leaves) if edge == SPINE]


def conjugates(plan):
    """Return the list with the conjugate of each leaf, or None."""
    leaves = uncut_leaves(plan)
    found = [None] * len(leaves)
    for first, second in sewn_pairs(leaves):
        found[first] = second
        found[second] = first
    return found


def is_sewable(plan):
    """Return whether the first leaf is conjugate to the last one, and so on for all leaves."""
    found = conjugates(plan)
    return found == list(reversed(range(len(found))))


def creep(plan):
    """Return for each leaf the number of creases at the spine that go around it."""
    leaves = uncut_leaves(plan)
    pairs = sewn_pairs(leaves)
    return [len([pair for pair in pairs if pair[0] < leaf < pair[1]]) for leaf in range(len(leaves))]
