"""Whether a structure draws together."""

from proofpaths.formula import PAR, TENSOR


class Clusters:
    """The points, parted into clusters; two points with one label are in one cluster."""

    def __init__(self, count):
        self.labels = list(range(count))

    def are_one(self, first, second):
        return self.labels[first] == self.labels[second]

    def unite(self, first, second):
        """Makes the clusters of two points one; False if they are one already."""
        if self.are_one(first, second):
            return False
        kept = self.labels[first]
        lost = self.labels[second]
        self.labels = [kept if label == lost else label for label in self.labels]
        return True

    def cluster_count(self):
        return len(set(self.labels))


def draws_together(points):
    clusters = Clusters(len(points.nodes))
    for edge in edges(points):
        if not clusters.unite(edge[0], edge[1]):
            return False
    return takes_all_pars(points, clusters) and clusters.cluster_count() == 1


def edges(points):
    """The two points of each edge."""
    found = []
    for tensor in points.junction_points(TENSOR):
        found.append((tensor, points.part(tensor, 0)))
        found.append((tensor, points.part(tensor, 1)))
    # Each pair and each cut is met from both ends, and counts once.
    for point in points.leaf_points():
        if point < points.partners[point]:
            found.append((point, points.partners[point]))
    for root in points.roots:
        if root < points.turns[root]:
            found.append((root, points.turns[root]))
    return found


def takes_all_pars(points, clusters):
    """Takes pars as long as one can be taken; False if one is in the cluster above it, or can't be taken."""
    waiting = points.junction_points(PAR)
    while waiting != []:
        ready = [par for par in waiting if is_ready(points, clusters, par)]
        if ready == []:
            return False
        waiting = [par for par in waiting if not is_ready(points, clusters, par)]
        # Clusters only grow: one that is ready stays so, whatever is taken before it.
        for par in ready:
            if not clusters.unite(par, points.part(par, 0)):
                return False
    return True


def is_ready(points, clusters, par):
    return clusters.are_one(points.part(par, 0), points.part(par, 1))
