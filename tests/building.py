"""Structures made by chance, the same each time: nets built as proofs are, ones with their links at random, opponents.

A formula is as in second_reading, but an atom has its own number as a fourth value, by which links are told.
"""

import second_reading
from helpers import links_text
from second_reading import dual, form, leaves_of

NAMES = ("a", "b", "c0")


def text_of(conclusions, cuts, links):
    """The structure's text; a cut is told as its two formulas, links by the atoms' own numbers."""
    formulas = conclusions + [tree for cut in cuts for tree in cut]
    atoms = [leaf[3] for tree in formulas for leaf in leaves_of(tree)]
    pairs = [(atoms.index(first), atoms.index(second)) for first, second in links]
    return " ; ".join([", ".join(map(form, conclusions)), ", ".join(form(cut[0]) for cut in cuts), links_text(pairs)])


class Proof:
    """A proof that grows by rules; what it has is always a net."""

    def __init__(self, source):
        self.source = source
        self.atom_count = 0
        self.links = []
        self.cuts = []

    def atom(self, name, turned):
        self.atom_count += 1
        return ("atom", name, turned, self.atom_count)

    def identity(self, tree):
        """The formula and its dual, with each atom linked to its opposite."""
        if tree[0] == "atom":
            first, second = self.atom(tree[1], tree[2]), self.atom(tree[1], not tree[2])
            self.links.append((first[3], second[3]))
            return [first, second]
        left, right = self.identity(tree[1]), self.identity(tree[2])
        return [(tree[0], left[0], right[0]), ("|" if tree[0] == "*" else "*", left[1], right[1])]

    def draw_one(self, sequent):
        return sequent.pop(self.source.randrange(len(sequent)))

    def tensor(self, first, second):
        tree = ("*", self.draw_one(first), self.draw_one(second))
        return first + second + [tree]

    def par(self, sequent):
        first, second = self.draw_one(sequent), self.draw_one(sequent)
        return sequent + [("|", first, second)]

    def cut(self, sequent):
        tree = self.draw_one(sequent)
        again, opposite = self.identity(tree)
        sides = [tree, opposite]
        self.source.shuffle(sides)
        self.cuts.append(tuple(sides))
        return sequent + [again]

    def whole(self, axioms, steps):
        """The text of a net with so many axioms, beside those that cuts bring."""
        sequents = [self.identity(("atom", self.source.choice(NAMES), False)) for axiom in range(axioms)]
        while len(sequents) > 1 or steps > 0:
            steps -= 1
            rule = self.source.choice(["tensor", "tensor", "par", "cut"])
            self.source.shuffle(sequents)
            if rule == "tensor" and len(sequents) > 1:
                sequents.append(self.tensor(sequents.pop(), sequents.pop()))
            elif rule == "par" and len(sequents[0]) > 1:
                sequents[0] = self.par(sequents[0])
            elif rule == "cut" and steps > 0:
                sequents[0] = self.cut(sequents[0])
        self.source.shuffle(sequents[0])
        self.source.shuffle(self.cuts)
        return text_of(sequents[0], self.cuts, self.links)


def random_net(source):
    return Proof(source).whole(source.randrange(1, 7), source.randrange(0, 10))


def turned_sign(source, text):
    """The text with one sign of a conclusion turned, if it has one: often no net any more."""
    conclusions, rest = text.split(";", 1)
    # In brackets, so that a turned sign stands in no chain of the old one.
    signs = list(", ".join(map(bracketed, second_reading.read_sequent(conclusions))))
    places = [at for at, sign in enumerate(signs) if sign in "*|"]
    if places:
        at = source.choice(places)
        signs[at] = "|" if signs[at] == "*" else "*"
    return "".join(signs) + ";" + rest


def bracketed(tree):
    if tree[0] == "atom":
        return form(tree)
    return "(%s)%s(%s)" % (bracketed(tree[1]), tree[0], bracketed(tree[2]))


def random_tree(source, atoms):
    """A formula over these atoms in this order."""
    if len(atoms) == 1:
        return atoms[0]
    cut = source.randrange(1, len(atoms))
    return (source.choice("*|"), random_tree(source, atoms[:cut]), random_tree(source, atoms[cut:]))


def random_links(source, leaves, numbers=None):
    """Pairs of leaves' numbers, of all or of those told; some are left over if the leaves can't be paired."""
    free = list(range(len(leaves)) if numbers is None else numbers)
    source.shuffle(free)
    pairs = []
    while free:
        leaf = free.pop()
        fitting = [other for other in free if leaves[other] == dual(leaves[leaf])]
        if fitting:
            free.remove(fitting[0])
            pairs.append((leaf, fitting[0]))
    return pairs


def random_opponent(source, tree):
    """A structure one of whose conclusions is the dual of this formula: its text, and that conclusion's number.

    As many of the dual's atoms as can be are linked among themselves, so that a token often comes back.
    """
    meeting = dual(tree)
    leaves = leaves_of(meeting)
    inner = random_links(source, leaves)
    loose = [dual(leaf) for at, leaf in enumerate(leaves) if all(at not in pair for pair in inner)]
    conclusions = random_sequent(source, loose + source.choice([[], [("atom", "a", False), ("atom", "a", True)]]))
    j = source.randrange(len(conclusions) + 1)
    conclusions.insert(j, meeting)
    cuts = source.choice([[], [], [source.choice(conclusions)]])
    structure = second_reading.Structure(conclusions, cuts, [])
    begin = sum(len(leaves_of(other)) for other in conclusions[:j])
    links = [(begin + first, begin + second) for first, second in inner]
    rest = [leaf for leaf in range(len(structure.leaves)) if all(leaf not in pair for pair in links)]
    links += random_links(source, structure.leaves, rest)
    return " ; ".join([", ".join(map(form, conclusions)), ", ".join(map(form, cuts)), links_text(links)]), j


def random_sequent(source, atoms):
    """Formulas over these atoms, in whatever order."""
    loose = list(atoms)
    source.shuffle(loose)
    trees = []
    while loose:
        size = source.randrange(1, len(loose) + 1)
        trees.append(random_tree(source, loose[:size]))
        loose = loose[size:]
    return trees


def joined(held, other, i, j):
    """The text of two structures made one: the conclusion i of the first is cut against j of the second."""
    first = [(0, number) for number in range(len(held.formulas)) if number != i]
    second = [(1, number) for number in range(len(other.formulas)) if number != j]
    structures = (held, other)
    conclusions = [at for at in first + second if structures[at[0]].is_conclusion(at[1])]
    in_cuts = [at for at in first + second if at not in conclusions] + [(0, i), (1, j)]
    order = [(side, leaf) for side, number in conclusions + in_cuts for leaf in leaf_numbers(structures[side], number)]
    pairs = [(order.index((side, first)), order.index((side, second)))
             for side in (0, 1) for first, second in structures[side].links]
    forms = [form(structures[side].formulas[number]) for side, number in conclusions + in_cuts]
    cut_forms = forms[len(conclusions)::2]
    return " ; ".join([", ".join(forms[:len(conclusions)]), ", ".join(cut_forms), links_text(pairs)])


def leaf_numbers(structure, formula):
    begin = sum(len(leaves_of(tree)) for tree in structure.formulas[:formula])
    return range(begin, begin + len(leaves_of(structure.formulas[formula])))


def random_formula(source, atoms):
    """A text of a formula over these atoms in this order, now and then with blanks."""
    blank = source.choice(["", "", " ", "  "])
    if len(atoms) == 1:
        return blank + atoms[0] + blank
    cut = source.randrange(1, len(atoms))
    sign = source.choice("*|")
    first = "(" + random_formula(source, atoms[:cut]) + ")"
    second = "(" + random_formula(source, atoms[cut:]) + ")"
    return blank + first + blank + sign + blank + second


def random_structure(source):
    """A text that is a structure's, if its leaves can be paired, with cuts now and then."""
    atoms = []
    for index in range(source.randrange(1, 8)):
        name = source.choice(NAMES)
        atoms.extend([name, "~" + name])
    source.shuffle(atoms)
    sequents = [[], []]
    while atoms:
        size = source.randrange(1, min(5, len(atoms)) + 1)
        sequents[source.choice([0, 0, 0, 1])].append(random_formula(source, atoms[:size]))
        atoms = atoms[size:]
    conclusions, cuts = (",".join(formulas) for formulas in sequents)
    loose = second_reading.Structure(
        second_reading.read_sequent(conclusions), second_reading.read_sequent(cuts), [])
    return conclusions + ";" + cuts + ";" + links_text(random_links(source, loose.leaves))


def spoilt(source, text):
    """The text with some bytes taken out, put in or put in another's place."""
    signs = list(text)
    for index in range(source.randrange(1, 3)):
        at = source.randrange(len(signs) + 1)
        signs[at:at + source.randrange(2)] = source.choice(["", *"ab01~*|()-o,; A", "-o"])
    return "".join(signs)
