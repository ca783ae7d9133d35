"""The document read a second time, by recursion and over trees, to hold the program against.

A formula is ("atom", name, turned) or (sign, first, second).
"""

import itertools
import re

TOKEN = re.compile(r"[a-z0-9]+|-o|[~*|()]")
NAME = re.compile(r"[a-z][a-z0-9]{0,11}")


class NoFormula(Exception):
    pass


def tokens_of(text):
    tokens = []
    at = 0
    while at < len(text):
        if text[at] == " ":
            at += 1
            continue
        match = TOKEN.match(text, at)
        if match is None:
            raise NoFormula
        token = match.group()
        if token[0] not in "~*|()-" and NAME.fullmatch(token) is None:
            raise NoFormula
        tokens.append(token)
        at = match.end()
    return tokens


def dual(tree):
    if tree[0] == "atom":
        return ("atom", tree[1], not tree[2])
    return ("|" if tree[0] == "*" else "*", dual(tree[1]), dual(tree[2]))


class Descent:
    """Reads by the rules as they stand; spans holds from where to where each sign is open."""

    def __init__(self, tokens):
        self.tokens = tokens + [""]
        self.at = 0
        self.spans = []

    def sign(self, token):
        if self.tokens[self.at] != token:
            raise NoFormula
        self.at += 1

    def formula(self):
        tree = self.chain("*|")
        begin = self.at
        if self.tokens[begin] == "-o":
            self.sign("-o")
            tree = ("|", dual(tree), self.formula())
            self.spans.append((begin, self.at))
        return tree

    def chain(self, signs):
        tree = self.part()
        begin = self.at
        token = self.tokens[begin]
        if token in ("*", "|"):
            if token not in signs:
                raise NoFormula
            self.sign(token)
            tree = (token, tree, self.chain(token))
            self.spans.append((begin, self.at))
        return tree

    def part(self):
        begin = self.at
        token = self.tokens[begin]
        if token == "~":
            self.sign("~")
            tree = dual(self.part())
            self.spans.append((begin, self.at))
        elif token == "(":
            self.sign("(")
            tree = self.formula()
            self.sign(")")
            self.spans.append((begin, self.at))
        elif NAME.fullmatch(token):
            self.sign(token)
            tree = ("atom", token, False)
        else:
            raise NoFormula
        return tree


def read_formula(text):
    if len(text) > 2000:
        raise NoFormula
    descent = Descent(tokens_of(text))
    tree = descent.formula()
    descent.sign("")
    for place in range(len(descent.tokens)):
        if sum(begin <= place < end for begin, end in descent.spans) > 100:
            raise NoFormula
    return tree


def form(tree):
    if tree[0] == "atom":
        return ("~" if tree[2] else "") + tree[1]
    first = form(tree[1])
    second = form(tree[2])
    if tree[1][0] != "atom":
        first = "(" + first + ")"
    if tree[2][0] not in ("atom", tree[0]):
        second = "(" + second + ")"
    return first + tree[0] + second


def leaves_of(tree):
    return [tree] if tree[0] == "atom" else leaves_of(tree[1]) + leaves_of(tree[2])


def depth(tree):
    return 1 if tree[0] == "atom" else 1 + max(depth(tree[1]), depth(tree[2]))


def read_sequent(text):
    if text.strip(" ") == "":
        return []
    trees = [read_formula(part) for part in text.split(",")]
    if len(trees) > 20:
        raise NoFormula
    return trees


def read_links(text):
    text = text.strip(" ")
    if text == "":
        return []
    if re.fullmatch(r"(0|[1-9][0-9]*)-[1-9][0-9]*( [1-9][0-9]*-[1-9][0-9]*)*", text) is None:
        raise NoFormula
    pairs = [tuple(int(number) for number in pair.split("-")) for pair in text.split(" ")]
    if any(lesser >= greater for lesser, greater in pairs):
        raise NoFormula
    if any(pairs[k][0] >= pairs[k + 1][0] for k in range(len(pairs) - 1)):
        raise NoFormula
    return pairs


def read_structure(text):
    """The refusal, or the structure."""
    if text.count(";") != 2:
        return -1
    parts = text.split(";")
    try:
        structure = Structure(read_sequent(parts[0]), read_sequent(parts[1]), read_links(parts[2]))
    except NoFormula:
        return -1
    if any(len(leaves_of(tree)) > 60 or depth(tree) > 40 for tree in structure.formulas):
        return -6
    if len(structure.leaves) > 120:
        return -5
    if not structure.is_paired():
        return -3
    structure.number()
    return structure


class Structure:
    """Its points are named by the formula's number and the place in it."""

    def __init__(self, conclusions, cuts, links):
        self.conclusions = conclusions
        self.cuts = cuts
        self.links = links
        self.formulas = conclusions + [tree for cut in cuts for tree in (cut, dual(cut))]
        self.leaves = [leaf for tree in self.formulas for leaf in leaves_of(tree)]

    def is_paired(self):
        if sorted(number for pair in self.links for number in pair) != list(range(len(self.leaves))):
            return False
        return all(self.leaves[first] == dual(self.leaves[second]) for first, second in self.links)

    def number(self):
        self.points = []
        self.trees = {}
        for at, tree in enumerate(self.formulas):
            self.enter((at, ()), tree)
        self.numbers = {point: number for number, point in enumerate(self.points)}
        self.junctions = [point for point in self.points if self.trees[point][0] != "atom"]
        atoms = [point for point in self.points if self.trees[point][0] == "atom"]
        self.partner = {}
        for first, second in self.links:
            self.partner[atoms[first]] = atoms[second]
            self.partner[atoms[second]] = atoms[first]

    def enter(self, point, tree):
        self.points.append(point)
        self.trees[point] = tree
        if tree[0] != "atom":
            self.enter((point[0], point[1] + (0,)), tree[1])
            self.enter((point[0], point[1] + (1,)), tree[2])

    def form(self):
        links = " ".join("%d-%d" % pair for pair in self.links)
        conclusions = ", ".join(form(tree) for tree in self.conclusions)
        cuts = ", ".join(form(tree) for tree in self.cuts)
        return " ; ".join([conclusions, cuts, links])

    def behind(self, passage, switching):
        point, way = self.points[passage // 2], "down" if passage % 2 else "up"
        switch = dict(zip(self.junctions, switching))
        after, way = self.step(point, way, switch)
        return 2 * self.numbers[after] + (way == "down")

    def step(self, point, way, switch):
        formula, place = point
        if way == "up":
            if point in self.partner:
                return self.partner[point], "down"
            return (formula, place + (switch[point],)), "up"
        if place == ():
            return (self.opposite(formula), ()), "up"
        junction = (formula, place[:-1])
        if self.trees[junction][0] == "*":
            if place[-1] == switch[junction]:
                return (formula, place[:-1] + (1 - place[-1],)), "up"
            return junction, "down"
        if place[-1] == switch[junction]:
            return junction, "down"
        return point, "up"

    def opposite(self, formula):
        over = formula - len(self.conclusions)
        if over < 0:
            return formula
        return formula + 1 if over % 2 == 0 else formula - 1

    def trip(self, passage, switching):
        met = []
        at = passage
        while at not in met:
            met.append(at)
            at = self.behind(at, switching)
        return met

    def all_long(self):
        """As the parenthesis of the document says it: of the trip from passage 0, with every switching."""
        return self.points != [] and self.first_bad() is None

    def first_bad(self):
        """The first switching with which the trip from passage 0 is not long, with the trip's length; or None."""
        for switching in itertools.product((0, 1), repeat=len(self.junctions)):
            length = len(self.trip(0, switching))
            if length < 2 * len(self.points):
                return list(switching), length
        return None

    def atoms_in(self, formula):
        return [point for point in self.points if point[0] == formula and self.trees[point][0] == "atom"]

    def is_conclusion(self, number):
        return number in range(len(self.conclusions))

    def is_place_of_atom(self, conclusion, place):
        return self.is_conclusion(conclusion) and (conclusion, tuple(place)) in self.partner

    def send(self, point):
        """Where a token put in at this atom comes out, and the cuts that it went over, one after the other."""
        after = self.partner[point]
        if self.is_conclusion(after[0]):
            return after, []
        across = self.opposite(after[0])
        count = self.atoms_in(after[0]).index(after)
        out, cuts = self.send(self.atoms_in(across)[count])
        return out, [(after[0], across)] + cuts

    def draws_together(self):
        clusters = [{point} for point in self.points]
        for first, second in self.edges():
            clusters = united(clusters, first, second)
            if clusters is None:
                return False
        pars = [point for point in self.points if self.trees[point][0] == "|"]
        while True:
            ready = [par for par in pars if any(set(self.parts_of(par)) <= cluster for cluster in clusters)]
            if ready == []:
                return pars == [] and len(clusters) == 1
            clusters = united(clusters, ready[-1], self.parts_of(ready[-1])[0])
            if clusters is None:
                return False
            pars.remove(ready[-1])

    def parts_of(self, junction):
        return [(junction[0], junction[1] + (side,)) for side in (0, 1)]

    def edges(self):
        tensors = [point for point in self.points if self.trees[point][0] == "*"]
        found = [(tensor, part) for tensor in tensors for part in self.parts_of(tensor)]
        atoms = [point for point in self.points if self.trees[point][0] == "atom"]
        found += [(atoms[first], atoms[second]) for first, second in self.links]
        begin = len(self.conclusions)
        return found + [((begin + 2 * cut, ()), (begin + 2 * cut + 1, ())) for cut in range(len(self.cuts))]


def united(clusters, first, second):
    """The clusters with those of two points made one; None if they are one already."""
    ends = [cluster for cluster in clusters if first in cluster or second in cluster]
    if len(ends) == 1:
        return None
    return [cluster for cluster in clusters if cluster not in ends] + [ends[0] | ends[1]]


def play(held, other, i, j, point):
    """Which structure the token comes out of, the atom there, how often it went over."""
    structures = (held, other)
    met = (i, j)
    side = 0
    often = 0
    while True:
        point = structures[side].send(point)[0]
        if point[0] != met[side]:
            return side, point, often
        side = 1 - side
        often += 1
        point = (met[side], point[1])


class Line:
    """The calls on one object: each method answers as the call of its name does."""

    def __init__(self):
        self.held = read_structure("a, ~a ; ; 0-1")

    def set(self, text):
        structure = read_structure(text)
        if isinstance(structure, int):
            return [structure]
        self.held = structure
        return [len(structure.leaves)]

    def form(self):
        form = list(self.held.form().encode())
        return [len(form)] + form

    def size(self):
        return [len(self.held.points), len(self.held.junctions), 2 * len(self.held.points)]

    def refusal(self, passage, switching):
        if passage not in range(2 * len(self.held.points)):
            return -4
        if len(switching) != len(self.held.junctions) or not set(switching) <= {0, 1}:
            return -1
        return 0

    def next(self, passage, switching):
        return [self.refusal(passage, switching) or self.held.behind(passage, switching)]

    def trip(self, passage, switching):
        return [self.refusal(passage, switching) or len(self.held.trip(passage, switching))]

    def path(self, switching):
        if self.refusal(0, switching):
            return [self.refusal(0, switching)]
        trip = self.held.trip(0, switching)
        return [len(trip)] + trip

    def test(self):
        return [-7] if len(self.held.junctions) > 8 else [int(self.held.all_long())]

    def bad(self):
        if len(self.held.junctions) > 8:
            return [-7]
        if self.held.points == [] or self.held.first_bad() is None:
            return [-4]
        switching, length = self.held.first_bad()
        return [len(switching)] + switching + [length]

    def token(self, i, place):
        if not self.held.is_place_of_atom(i, place):
            return [-4]
        out, cuts = self.held.send((i, tuple(place)))
        return [out[0], len(out[1]), *out[1], len(cuts)]

    def play(self, i, j, c, text, place):
        other = read_structure(text)
        if isinstance(other, int):
            return [other]
        if not (self.held.is_conclusion(i) and other.is_conclusion(j) and self.held.is_conclusion(c)):
            return [-4]
        if c == i or not self.held.is_place_of_atom(c, place):
            return [-4]
        if other.conclusions[j] != dual(self.held.conclusions[i]):
            return [-8]
        side, out, often = play(self.held, other, i, j, (c, tuple(place)))
        return [side, out[0], len(out[1]), *out[1], often]

    def place(self, leaf):
        atoms = [point for point in self.held.points if self.held.trees[point][0] == "atom"]
        if leaf not in range(len(atoms)):
            return [-4]
        formula, place = atoms[leaf]
        return [formula, len(place), *place]

    def draw(self):
        return [int(self.held.draws_together())]
