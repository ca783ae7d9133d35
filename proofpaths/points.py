"""A structure's points, and the trips through them."""

from proofpaths.formula import TENSOR, is_junction


class Points:
    """The points of a structure, made from parts that are not refused.

    All lists go by the point's number; -1 stands where there is nothing.
    """

    def __init__(self, parts):
        # The node at each point.
        self.nodes = []
        # The number of the structure's formula that the point lies in.
        self.owners = []
        # The junction that is of the point's formula and another one.
        self.below = []
        # 0 or 1, whether the point is the first or the second one there.
        self.sides = []
        # The second formula of a junction; the first one is the point behind it.
        self.seconds = []
        # A junction's number among the junctions.
        self.switches = []
        # The partner of an atom.
        self.partners = []
        # For a whole formula: the one up through which it goes on.
        self.turns = []
        self.junction_count = 0
        self.conclusion_count = len(parts.conclusions)
        # By the formula's number: the point that is the whole formula.
        self.roots = []
        for formula in parts.formulas():
            self.lay(formula)
        self.join_cuts(self.roots[self.conclusion_count:])
        self.join_leaves(parts.links)

    def lay(self, formula):
        """Gives the formula's nodes their points."""
        root = len(self.nodes)
        owner = len(self.roots)
        # Where the points to come belong, the nearest one last.
        awaited = [(-1, -1)]
        for node in formula:
            point = len(self.nodes)
            spot = awaited.pop()
            self.add_point(node, spot[0], spot[1])
            self.owners.append(owner)
            if spot[1] == 1:
                self.seconds[spot[0]] = point
            if is_junction(node):
                awaited.append((point, 1))
                awaited.append((point, 0))
        self.turns[root] = root
        self.roots.append(root)

    def add_point(self, node, junction, side):
        self.nodes.append(node)
        self.below.append(junction)
        self.sides.append(side)
        self.seconds.append(-1)
        self.partners.append(-1)
        self.turns.append(-1)
        if is_junction(node):
            self.switches.append(self.junction_count)
            self.junction_count += 1
        else:
            self.switches.append(-1)

    def join_cuts(self, roots):
        for at in range(0, len(roots), 2):
            self.turns[roots[at]] = roots[at + 1]
            self.turns[roots[at + 1]] = roots[at]

    def join_leaves(self, links):
        leaves = self.leaf_points()
        for pair in links:
            self.partners[leaves[pair[0]]] = leaves[pair[1]]
            self.partners[leaves[pair[1]]] = leaves[pair[0]]

    def leaf_points(self):
        """The points of the leaves, in their order."""
        return [point for point, node in enumerate(self.nodes) if not is_junction(node)]

    def junction_points(self, kind):
        """The points of all tensors or of all pars."""
        return [point for point, node in enumerate(self.nodes) if node[0] == kind]

    def has_conclusion(self, number):
        return 0 <= number < self.conclusion_count

    def has_passage(self, number):
        return 0 <= number < self.passage_count()

    def passage_count(self):
        return 2 * len(self.nodes)

    def is_switching(self, numbers):
        return len(numbers) == self.junction_count and all([number in (0, 1) for number in numbers])

    def behind(self, passage, switching):
        """The passage behind this one."""
        if passage % 2 == 0:
            return self.behind_up(passage // 2, switching)
        return self.behind_down(passage // 2, switching)

    def behind_up(self, point, switching):
        if not is_junction(self.nodes[point]):
            return down(self.partners[point])
        return up(self.part(point, switching[self.switches[point]]))

    def behind_down(self, point, switching):
        junction = self.below[point]
        if junction == -1:
            return up(self.turns[point])
        switched = switching[self.switches[junction]] == self.sides[point]
        if self.nodes[junction][0] == TENSOR:
            return up(self.beside(point)) if switched else down(junction)
        return down(junction) if switched else up(point)

    def part(self, junction, side):
        """The first formula that a junction is of, for side 0; the second one, for side 1."""
        return junction + 1 if side == 0 else self.seconds[junction]

    def beside(self, point):
        """The other one of the two formulas that the junction below is of."""
        return self.part(self.below[point], 1 - self.sides[point])

    def trip(self, passage, switching):
        """The passages of the trip, in order."""
        met = [passage]
        at = self.behind(passage, switching)
        while at != passage:
            met.append(at)
            at = self.behind(at, switching)
        return met


def up(point):
    return 2 * point


def down(point):
    return 2 * point + 1
