"""All switchings of a structure, and whether the trip from passage 0 is long with each."""

MOST_JUNCTIONS = 8


def all_switchings(count):
    """The switchings of this many junctions, in their order."""
    found = [[]]
    for junction in range(count):
        longer = []
        for switching in found:
            longer.append(switching + [0])
            longer.append(switching + [1])
        found = longer
    return found


def first_bad_switching(points):
    """The first one with which the trip from passage 0 is not long; None if there's none.

    There must be a passage 0.
    """
    for switching in all_switchings(points.junction_count):
        if len(points.trip(0, switching)) < points.passage_count():
            return switching
    return None


def is_net(points):
    # Without passages there's no trip, so no long one.
    return points.has_passage(0) and first_bad_switching(points) is None
