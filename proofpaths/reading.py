"""Reading a text as a formula."""

from proofpaths.formula import PAR, TENSOR, compound, dual, plain_atom
from proofpaths.signs import BAR, BLANK, DASH, LEFT, RIGHT, SMALL_O, STAR, TILDE, is_digit, is_letter

MOST_BYTES = 2000
MOST_NAME_BYTES = 12
MOST_PENDING = 100


def read_formula(text):
    """The formula; a list of no nodes if the text is no formula."""
    if len(text) > MOST_BYTES:
        return []
    reading = Reading()
    for token in cut_into_tokens(text):
        reading.take(token)
        if reading.failed:
            return []
    return reading.whole()


def cut_into_tokens(text):
    """The tokens, each as its bytes; none at all if something in the text is no token."""
    tokens = []
    at = 0
    while at < len(text):
        if text[at] == BLANK:
            at += 1
        else:
            token = token_at(text, at)
            if token == []:
                return []
            tokens.append(token)
            at += len(token)
    return tokens


def token_at(text, at):
    """The bytes of the token that begins there; no bytes if none does."""
    byte = text[at]
    if is_name_byte(byte):
        stretch = text[at:stretch_end(text, at)]
        return stretch if is_name(stretch) else []
    if byte in (TILDE, STAR, BAR, LEFT, RIGHT):
        return [byte]
    if text[at:at + 2] == [DASH, SMALL_O]:
        return [DASH, SMALL_O]
    return []


def is_name_byte(byte):
    return is_letter(byte) or is_digit(byte)


def stretch_end(text, at):
    end = at
    while end < len(text) and is_name_byte(text[end]):
        end += 1
    return end


def is_name(stretch):
    return is_letter(stretch[0]) and len(stretch) <= MOST_NAME_BYTES


class Reading:
    """A formula that is being read, token by token.

    formula is what has been read last, up to the end of a part; it has no
    nodes while a part is awaited. pending holds the signs that still reach
    on, the outermost first, each with the formula that stands before it: just
    those that the bound of 100 counts.
    """

    def __init__(self):
        self.formula = []
        self.pending = []
        self.failed = False

    def take(self, token):
        if self.formula == []:
            self.take_for_part(token)
        else:
            self.take_behind_part(token[0])

    def take_for_part(self, token):
        if is_letter(token[0]):
            self.formula = plain_atom(token)
            self.end_part()
        elif token[0] == TILDE or token[0] == LEFT:
            self.begin(token[0])
        else:
            self.failed = True

    def take_behind_part(self, sign):
        if sign == STAR or sign == BAR:
            self.take_chain_sign(sign)
        elif sign == DASH:
            self.end_chain()
            self.begin(DASH)
        elif sign == RIGHT:
            self.take_right()
        else:
            self.failed = True

    def take_chain_sign(self, sign):
        if self.innermost() in (STAR, BAR) and self.innermost() != sign:
            self.failed = True
        self.begin(sign)

    def take_right(self):
        self.end_formula()
        if self.innermost() == LEFT:
            self.pending.pop()
            self.end_part()
        else:
            self.failed = True

    def begin(self, sign):
        self.pending.append((sign, self.formula))
        self.formula = []
        if len(self.pending) > MOST_PENDING:
            self.failed = True

    def innermost(self):
        """The sign that was pending last; 0 if there's none."""
        if self.pending == []:
            return 0
        return self.pending[-1][0]

    def end_part(self):
        while self.innermost() == TILDE:
            self.pending.pop()
            self.formula = dual(self.formula)

    def end_chain(self):
        while self.innermost() in (STAR, BAR):
            before = self.pending.pop()
            kind = TENSOR if before[0] == STAR else PAR
            self.formula = compound(kind, before[1], self.formula)

    def end_formula(self):
        self.end_chain()
        while self.innermost() == DASH:
            before = self.pending.pop()
            self.formula = compound(PAR, dual(before[1]), self.formula)

    def whole(self):
        """The formula, if the text may end here; else no nodes."""
        if self.formula == []:
            return []
        self.end_formula()
        return self.formula if self.pending == [] else []
