"""Tokens: sent through one structure, or to and fro between two."""


class Token:
    """A token that stands at an atom of a conclusion."""

    def __init__(self, point):
        self.point = point
        self.cut_count = 0
        # 0 in the held structure, 1 in the other one.
        self.board = 0
        self.crossing_count = 0

    def go_through(self, points):
        """Puts the token in where it stands, and takes it to where it comes out."""
        self.point = points.partners[self.point]
        while not points.has_conclusion(points.owners[self.point]):
            self.point = points.partners[over_cut(points, self.point)]
            self.cut_count += 1

    def cross(self, roots):
        """Takes the token to the same place in the other one of two formulas that are duals."""
        # Duals are of one shape, so their points lie alike behind their first ones.
        inside = self.point - roots[self.board]
        self.board = 1 - self.board
        self.point = roots[self.board] + inside
        self.crossing_count += 1


def over_cut(points, point):
    """The atom of the cut's other formula that stands where this one stands."""
    root = points.roots[points.owners[point]]
    return points.turns[root] + point - root


def play(token, boards, conclusions):
    """Sends the token through the held structure, and on until it comes out of one of the two.

    boards has the points of both structures, conclusions the number of each
    one's conclusion where they meet.
    """
    roots = [points.roots[conclusion] for points, conclusion in zip(boards, conclusions)]
    token.go_through(boards[0])
    while boards[token.board].owners[token.point] == conclusions[token.board]:
        token.cross(roots)
        token.go_through(boards[token.board])
