"""The three parts of a structure's text: conclusions, cuts, links; and how they are written."""

from proofpaths.formula import atoms, dual, formula_form, in_bounds
from proofpaths.reading import read_formula
from proofpaths.signs import BLANK, COMMA, DASH, SEMICOLON, ZERO, as_bytes, is_digit, join_with, split_at

MOST_FORMULAS = 20
MOST_LEAVES = 120

NO_TEXT = -1
NO_PAIRS = -3
TOO_MANY_LEAVES = -5
OUT_OF_BOUNDS = -6


class Parts:
    """What a structure's text says, before it's known whether that is a structure."""

    def __init__(self, conclusions, cuts, links):
        self.conclusions = conclusions
        self.cuts = cuts
        self.links = links

    def formulas(self):
        whole = list(self.conclusions)
        for cut in self.cuts:
            whole.append(cut)
            whole.append(dual(cut))
        return whole

    def leaves(self):
        found = []
        for formula in self.formulas():
            found.extend(atoms(formula))
        return found


def read_parts(text):
    """The parts, or None if the text is no structure's text."""
    stretches = split_at(text, SEMICOLON)
    if len(stretches) != 3:
        return None
    conclusions = read_sequent(stretches[0])
    cuts = read_sequent(stretches[1])
    links = read_links(stretches[2])
    if conclusions is None or cuts is None or links is None:
        return None
    return Parts(conclusions, cuts, links)


def read_sequent(text):
    """The formulas, or None if the text is no sequent's text."""
    if without_outer_blanks(text) == []:
        return []
    formulas = []
    for stretch in split_at(text, COMMA):
        formula = read_formula(stretch)
        if formula == []:
            return None
        formulas.append(formula)
    return formulas if len(formulas) <= MOST_FORMULAS else None


def read_links(text):
    """The pairs, or None if the text is no links' text."""
    inner = without_outer_blanks(text)
    if inner == []:
        return []
    pairs = []
    last = -1
    for stretch in split_at(inner, BLANK):
        pair = read_pair(stretch)
        if pair is None or pair[0] <= last:
            return None
        pairs.append(pair)
        last = pair[0]
    return pairs


def read_pair(text):
    """The lesser and the greater number, or None if they don't stand there so."""
    halves = split_at(text, DASH)
    if len(halves) != 2:
        return None
    lesser = read_number(halves[0])
    greater = read_number(halves[1])
    if lesser < 0 or greater <= lesser:
        return None
    return (lesser, greater)


def read_number(text):
    """The number; -1 if the text is no number without needless zeros."""
    if text == [] or (text[0] == ZERO and len(text) > 1):
        return -1
    number = 0
    for byte in text:
        if not is_digit(byte):
            return -1
        number = 10 * number + byte - ZERO
    return number


def without_outer_blanks(text):
    begin = 0
    end = len(text)
    while begin < end and text[begin] == BLANK:
        begin += 1
    while begin < end and text[end - 1] == BLANK:
        end -= 1
    return text[begin:end]


def parts_refusal(parts):
    """The number with which the parts are refused; 0 if they make a structure."""
    if parts is None:
        return NO_TEXT
    if not all([in_bounds(formula) for formula in parts.formulas()]):
        return OUT_OF_BOUNDS
    leaves = parts.leaves()
    if len(leaves) > MOST_LEAVES:
        return TOO_MANY_LEAVES
    if not are_paired(leaves, parts.links):
        return NO_PAIRS
    return 0


def are_paired(leaves, links):
    met = {}
    for pair in links:
        if pair[1] >= len(leaves) or pair[0] in met or pair[1] in met:
            return False
        if [leaves[pair[0]]] != dual([leaves[pair[1]]]):
            return False
        met[pair[0]] = True
        met[pair[1]] = True
    return len(met) == len(leaves)


def parts_form(parts):
    """The bytes of the form."""
    return join_with(as_bytes(" ; "), [
        sequent_form(parts.conclusions),
        sequent_form(parts.cuts),
        links_form(parts.links),
    ])


def sequent_form(formulas):
    return join_with(as_bytes(", "), [formula_form(formula) for formula in formulas])


def links_form(links):
    return join_with([BLANK], [as_bytes(str(pair[0])) + [DASH] + as_bytes(str(pair[1])) for pair in links])
