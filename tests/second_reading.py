"""The document read a second time, by recursion and over trees, to hold the program against.

A formula is ("atom", name, turned) or (sign, first, second).
"""

import re

TOKEN = re.compile(r"[a-z0-9]+|-o|[~*|()]")
NAME = re.compile(r"[a-z][a-z0-9]{0,11}")


class NoFormula(Exception):
    pass


def tokens_of(text):
    tokens = []
    at = 0
    while at < len(text):
        if text[at] == " ":
            at += 1
            continue
        match = TOKEN.match(text, at)
        if match is None:
            raise NoFormula
        token = match.group()
        if token[0] not in "~*|()-" and NAME.fullmatch(token) is None:
            raise NoFormula
        tokens.append(token)
        at = match.end()
    return tokens


def dual(tree):
    if tree[0] == "atom":
        return ("atom", tree[1], not tree[2])
    return ("|" if tree[0] == "*" else "*", dual(tree[1]), dual(tree[2]))


class Descent:
    """Reads by the rules as they stand; spans holds from where to where each sign is open."""

    def __init__(self, tokens):
        self.tokens = tokens + [""]
        self.at = 0
        self.spans = []

    def sign(self, token):
        if self.tokens[self.at] != token:
            raise NoFormula
        self.at += 1

    def formula(self):
        tree = self.chain("*|")
        begin = self.at
        if self.tokens[begin] == "-o":
            self.sign("-o")
            tree = ("|", dual(tree), self.formula())
            self.spans.append((begin, self.at))
        return tree

    def chain(self, signs):
        tree = self.part()
        begin = self.at
        token = self.tokens[begin]
        if token in ("*", "|"):
            if token not in signs:
                raise NoFormula
            self.sign(token)
            tree = (token, tree, self.chain(token))
            self.spans.append((begin, self.at))
        return tree

    def part(self):
        begin = self.at
        token = self.tokens[begin]
        if token == "~":
            self.sign("~")
            tree = dual(self.part())
            self.spans.append((begin, self.at))
        elif token == "(":
            self.sign("(")
            tree = self.formula()
            self.sign(")")
            self.spans.append((begin, self.at))
        elif NAME.fullmatch(token):
            self.sign(token)
            tree = ("atom", token, False)
        else:
            raise NoFormula
        return tree


def read_formula(text):
    if len(text) > 2000:
        raise NoFormula
    descent = Descent(tokens_of(text))
    tree = descent.formula()
    descent.sign("")
    for place in range(len(descent.tokens)):
        if sum(begin <= place < end for begin, end in descent.spans) > 100:
            raise NoFormula
    return tree


def form(tree):
    if tree[0] == "atom":
        return ("~" if tree[2] else "") + tree[1]
    first = form(tree[1])
    second = form(tree[2])
    if tree[1][0] != "atom":
        first = "(" + first + ")"
    if tree[2][0] not in ("atom", tree[0]):
        second = "(" + second + ")"
    return first + tree[0] + second


def leaves_of(tree):
    return [tree] if tree[0] == "atom" else leaves_of(tree[1]) + leaves_of(tree[2])


def depth(tree):
    return 1 if tree[0] == "atom" else 1 + max(depth(tree[1]), depth(tree[2]))


def read_sequent(text):
    if text.strip(" ") == "":
        return []
    trees = [read_formula(part) for part in text.split(",")]
    if len(trees) > 20:
        raise NoFormula
    return trees


def read_links(text):
    text = text.strip(" ")
    if text == "":
        return []
    if re.fullmatch(r"(0|[1-9][0-9]*)-[1-9][0-9]*( [1-9][0-9]*-[1-9][0-9]*)*", text) is None:
        raise NoFormula
    pairs = [tuple(int(number) for number in pair.split("-")) for pair in text.split(" ")]
    if any(lesser >= greater for lesser, greater in pairs):
        raise NoFormula
    if any(pairs[k][0] >= pairs[k + 1][0] for k in range(len(pairs) - 1)):
        raise NoFormula
    return pairs


def read_structure(text):
    """The refusal, or the structure."""
    if text.count(";") != 2:
        return -1
    parts = text.split(";")
    try:
        structure = Structure(read_sequent(parts[0]), read_sequent(parts[1]), read_links(parts[2]))
    except NoFormula:
        return -1
    if any(len(leaves_of(tree)) > 60 or depth(tree) > 40 for tree in structure.formulas):
        return -6
    if len(structure.leaves) > 120:
        return -5
    if not structure.is_paired():
        return -3
    structure.number()
    return structure


class Structure:
    """Its points are named by the formula's number and the place in it."""

    def __init__(self, conclusions, cuts, links):
        self.conclusions = conclusions
        self.cuts = cuts
        self.links = links
        self.formulas = conclusions + [tree for cut in cuts for tree in (cut, dual(cut))]
        self.leaves = [leaf for tree in self.formulas for leaf in leaves_of(tree)]

    def is_paired(self):
        if sorted(number for pair in self.links for number in pair) != list(range(len(self.leaves))):
            return False
        return all(self.leaves[first] == dual(self.leaves[second]) for first, second in self.links)

    def number(self):
        self.points = []
        self.trees = {}
        for at, tree in enumerate(self.formulas):
            self.enter((at, ()), tree)
        self.numbers = {point: number for number, point in enumerate(self.points)}
        self.junctions = [point for point in self.points if self.trees[point][0] != "atom"]
        atoms = [point for point in self.points if self.trees[point][0] == "atom"]
        self.partner = {}
        for first, second in self.links:
            self.partner[atoms[first]] = atoms[second]
            self.partner[atoms[second]] = atoms[first]

    def enter(self, point, tree):
        self.points.append(point)
        self.trees[point] = tree
        if tree[0] != "atom":
            self.enter((point[0], point[1] + (0,)), tree[1])
            self.enter((point[0], point[1] + (1,)), tree[2])

    def form(self):
        links = " ".join("%d-%d" % pair for pair in self.links)
        conclusions = ", ".join(form(tree) for tree in self.conclusions)
        cuts = ", ".join(form(tree) for tree in self.cuts)
        return " ; ".join([conclusions, cuts, links])

    def behind(self, passage, switching):
        point, way = self.points[passage // 2], "down" if passage % 2 else "up"
        switch = dict(zip(self.junctions, switching))
        after, way = self.step(point, way, switch)
        return 2 * self.numbers[after] + (way == "down")

    def step(self, point, way, switch):
        formula, place = point
        if way == "up":
            if point in self.partner:
                return self.partner[point], "down"
            return (formula, place + (switch[point],)), "up"
        if place == ():
            return (self.opposite(formula), ()), "up"
        junction = (formula, place[:-1])
        if self.trees[junction][0] == "*":
            if place[-1] == switch[junction]:
                return (formula, place[:-1] + (1 - place[-1],)), "up"
            return junction, "down"
        if place[-1] == switch[junction]:
            return junction, "down"
        return point, "up"

    def opposite(self, formula):
        over = formula - len(self.conclusions)
        if over < 0:
            return formula
        return formula + 1 if over % 2 == 0 else formula - 1

    def trip(self, passage, switching):
        met = []
        at = passage
        while at not in met:
            met.append(at)
            at = self.behind(at, switching)
        return met
