"""Rings: lists of points one behind another, the last followed by the first."""

from landdays.points import apart_ones_meet
from landdays.points import cross
from landdays.points import on_stretch

LEAST_POINTS = 3
MOST_POINTS = 64
MOST_COORDINATE = 1000000


def edges_of(ring):
    """The stretches from each point to the next, each a tuple of two points."""
    return list(zip(ring, ring[1:] + ring[:1]))


def corners_of(ring):
    """Each point of the ring between the one before it and the one behind it."""
    return list(zip(ring[-1:] + ring[:-1], ring, ring[1:] + ring[:1]))


def twice_area(ring):
    """Twice the area, above 0 if the ring goes round what's inside to the left."""
    return sum([a[0] * b[1] - a[1] * b[0] for a, b in edges_of(ring)])


def is_near(point):
    """Whether a point isn't too far out for a ring."""
    return 0 <= point[0] <= MOST_COORDINATE and 0 <= point[1] <= MOST_COORDINATE


def may_be(ring):
    """Whether a ring keeps to all that a ring must."""
    if len(ring) < LEAST_POINTS or len(ring) > MOST_POINTS:
        return False
    if not all([is_near(point) for point in ring]):
        return False
    if ring[0] != min(ring) or twice_area(ring) <= 0:
        return False
    # With a true turn at each point, edges that follow one another have that point alone in common.
    if not all([cross(a, b, c) != 0 for a, b, c in corners_of(ring)]):
        return False
    return not apart_ones_meet(edges_of(ring), True)


def put_right(ring):
    """The ring without the points at which it goes straight on, begun at its first point."""
    turns = [b for a, b, c in corners_of(ring) if cross(a, b, c) != 0]
    first = turns.index(min(turns))
    return turns[first:] + turns[:first]


def is_on_edge(ring, point):
    """Whether a point is on an edge of the ring."""
    return any([on_stretch(point, a, b) for a, b in edges_of(ring)])


def is_inside(ring, point):
    """Whether a point is inside the ring, and not on an edge."""
    inside = False
    for a, b in edges_of(ring):
        if on_stretch(point, a, b):
            return False
        if is_passed(point, a, b):
            inside = not inside
    return inside


def is_passed(point, a, b):
    """Whether one passes the edge from a to b as one goes from the point straight to the right.

    An edge has its lower end but not its upper one here, so that a ring's point isn't passed twice.
    """
    if (a[1] > point[1]) == (b[1] > point[1]):
        return False
    return (cross(a, b, point) > 0) == (b[1] > a[1])


def with_points(ring, points):
    """The ring with those of the points that lie between two of its own set in there."""
    whole = []
    for a, b in edges_of(ring):
        between = sorted([point for point in points if point != a and point != b and on_stretch(point, a, b)])
        # Along a stretch points rise or fall, by x and then by y.
        if a > b:
            between.reverse()
        whole.append(a)
        whole.extend(between)
    return whole
