"""Two rings joined to one."""

from landdays.rings import edges_of
from landdays.rings import may_be
from landdays.rings import put_right
from landdays.rings import with_points


def outer_edges(ring, other):
    """The edges of the ring that aren't edges of the other one, gone the opposite way."""
    turned = {}
    for a, b in edges_of(other):
        turned[(b, a)] = True
    return [edge for edge in edges_of(ring) if edge not in turned]


def outline_of(outer):
    """The points along these edges, if they go round once and come to no point twice; else None.

    Edges that go round more than once leave a hole, or no stretch was in common;
    a point come to twice is one at which the rings touch.
    """
    following = dict(outer)
    if len(following) < len(outer):
        return None
    outline = [outer[0][0]]
    point = following[outline[0]]
    while point != outline[0]:
        outline.append(point)
        point = following[point]
    return outline if len(outline) == len(outer) else None


def join_rings(ring, other):
    """The one ring of two that have nothing inside in common, or None if they can't be joined."""
    # With the points of each set into the other, a common stretch is made of edges that both have.
    one = with_points(ring, other)
    two = with_points(other, ring)
    outline = outline_of(outer_edges(one, two) + outer_edges(two, one))
    if outline is None:
        return None
    joined = put_right(outline)
    return joined if may_be(joined) else None
