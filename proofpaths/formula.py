"""Formulas.

A formula is the list of its nodes, each one ahead of those that it is of, the
first of these with all within it ahead of the second. A node is its kind and
its name (no bytes for a tensor or a par). So each formula is gone through by
a loop, however deep it nests.
"""

from proofpaths.signs import BAR, LEFT, RIGHT, STAR, TILDE

PLAIN = 0
TURNED = 1
TENSOR = 2
PAR = 3

# By kind: the kind of the dual node.
DUAL_KINDS = (1, 0, 3, 2)

MOST_ATOMS = 60
MOST_DEPTH = 40


def is_junction(node):
    return node[0] == TENSOR or node[0] == PAR


def plain_atom(name):
    return [(PLAIN, tuple(name))]


def compound(kind, first, second):
    return [(kind, ())] + first + second


def dual(formula):
    return [(DUAL_KINDS[node[0]], node[1]) for node in formula]


def atoms(formula):
    return [node for node in formula if not is_junction(node)]


def depth(formula):
    # From the end on, both formulas that a node is of are done before it.
    depths = []
    for node in reversed(formula):
        if is_junction(node):
            first = depths.pop()
            second = depths.pop()
            depths.append(1 + max(first, second))
        else:
            depths.append(1)
    return depths[0]


def in_bounds(formula):
    return len(atoms(formula)) <= MOST_ATOMS and depth(formula) <= MOST_DEPTH


def formula_form(formula):
    """The bytes of the form."""
    # As for the depth; beside each text stands the kind of its formula.
    written = []
    for node in reversed(formula):
        if is_junction(node):
            first = written.pop()
            second = written.pop()
            written.append((node[0], junction_form(node[0], first, second)))
        else:
            written.append((node[0], atom_form(node)))
    return written[0][1]


def atom_form(node):
    if node[0] == TURNED:
        return [TILDE] + list(node[1])
    return list(node[1])


def junction_form(kind, first, second):
    left = first[1]
    if is_junction(first):
        left = in_brackets(left)
    right = second[1]
    if is_junction(second) and second[0] != kind:
        right = in_brackets(right)
    return left + [STAR if kind == TENSOR else BAR] + right


def in_brackets(text):
    return [LEFT] + text + [RIGHT]
