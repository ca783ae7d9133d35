"""Places: lists of 0 and 1 that lead from a formula into it."""

from proofpaths.formula import is_junction


def atom_at(points, formula, place):
    """The point of the atom at a place in one of the formulas; -1 if no atom is there."""
    at = points.roots[formula]
    for side in place:
        if not is_junction(points.nodes[at]) or side not in (0, 1):
            return -1
        at = points.part(at, side)
    return -1 if is_junction(points.nodes[at]) else at


def conclusion_atom_at(points, conclusion, place):
    """As atom_at, and -1 if there's no such conclusion."""
    if not points.has_conclusion(conclusion):
        return -1
    return atom_at(points, conclusion, place)


def place_of(points, point):
    """The point's place in its formula."""
    sides = []
    at = point
    while points.below[at] != -1:
        sides.append(points.sides[at])
        at = points.below[at]
    return list(reversed(sides))


def spot_of(points, point):
    """As calls answer it: the number of the point's formula; how many numbers its place has; they."""
    place = place_of(points, point)
    return [points.owners[point], len(place)] + place
