"""Ways through a ring, and the two rings that a way makes of one."""

from landdays.points import apart_ones_meet
from landdays.points import cross_over
from landdays.points import on_stretch
from landdays.points import turns_back
from landdays.rings import edges_of
from landdays.rings import is_inside
from landdays.rings import is_on_edge
from landdays.rings import put_right
from landdays.rings import with_points

LEAST_WAY_POINTS = 2
MOST_WAY_POINTS = 20


def stretches_of(way):
    """The stretches from each point of a way to the next."""
    return list(zip(way[:-1], way[1:]))


def meets_itself(way):
    """Whether a way comes to some point twice."""
    for a, b, c in zip(way[:-2], way[1:-1], way[2:]):
        if turns_back(a, b, c):
            return True
    return apart_ones_meet(stretches_of(way), False)


def middle_is_inside(ring, a, b):
    """Whether the middle between two points is inside the ring."""
    # The middle of whole points may not be whole: all is looked at twice as large.
    twice = [(point[0] * 2, point[1] * 2) for point in ring]
    return is_inside(twice, (a[0] + b[0], a[1] + b[1]))


def is_free_stretch(ring, way, a, b):
    """Whether a stretch of the way, between the way's ends, neither crosses an edge nor touches a ring's point."""
    for c, d in edges_of(ring):
        if cross_over(a, b, c, d):
            return False
        if c != way[0] and c != way[-1] and on_stretch(c, a, b):
            return False
    return middle_is_inside(ring, a, b)


def goes_through(ring, way):
    """Whether a way is one through this ring."""
    if len(way) < LEAST_WAY_POINTS or len(way) > MOST_WAY_POINTS:
        return False
    if way[0] == way[-1] or not is_on_edge(ring, way[0]) or not is_on_edge(ring, way[-1]):
        return False
    if not all([is_inside(ring, point) for point in way[1:-1]]):
        return False
    if meets_itself(way):
        return False
    return all([is_free_stretch(ring, way, a, b) for a, b in stretches_of(way)])


def points_between(ring, a, b):
    """The ring's points behind its point a and before its point b, as one goes round."""
    start = ring.index(a)
    turned = ring[start + 1:] + ring[:start]
    return turned[:turned.index(b)]


def split_ring(ring, way):
    """The rings to the left and to the right of a way through a ring, both put right."""
    whole = with_points(ring, [way[0], way[-1]])
    left = way + points_between(whole, way[-1], way[0])
    right = list(reversed(way)) + points_between(whole, way[0], way[-1])
    return (put_right(left), put_right(right))
