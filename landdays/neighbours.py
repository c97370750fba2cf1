"""How two rings are beside one another."""

from landdays.points import run_opposite
from landdays.rings import edges_of
from landdays.rings import is_on_edge

ALONG_A_STRETCH = 2
AT_A_POINT = 1
APART = 0


def have_opposite_stretch(ring, other):
    """Whether two rings have a stretch in common along which they go opposite ways."""
    others = edges_of(other)
    for a, b in edges_of(ring):
        if any([run_opposite(a, b, c, d) for c, d in others]):
            return True
    return False


def has_point_on_edge(ring, other):
    """Whether one of the ring's own points is on an edge of the other one."""
    return any([is_on_edge(other, point) for point in ring])


def how_beside(ring, other):
    """2, 1 or 0, as the rings lie along one another, touch with a point of either, or do neither."""
    if have_opposite_stretch(ring, other):
        return ALONG_A_STRETCH
    if has_point_on_edge(ring, other) or has_point_on_edge(other, ring):
        return AT_A_POINT
    return APART
