"""Points and stretches.

A point is a tuple of x and y; a stretch is told by the two points that it goes from and to.
All is whole numbers, so every answer is exact.
"""


def cross(a, b, c):
    """Above 0 if c is to the left as one goes from a to b, below 0 if to the right, 0 if straight."""
    return (b[0] - a[0]) * (c[1] - a[1]) - (b[1] - a[1]) * (c[0] - a[0])


def goes_on(a, b, c):
    """Above 0 if what follows b goes rather the way from a to b, below 0 if rather back."""
    return (b[0] - a[0]) * (c[0] - b[0]) + (b[1] - a[1]) * (c[1] - b[1])


def turns_back(a, b, c):
    """Whether the stretches from a to b and from b to c have more in common than b.

    A stretch of no length counts too: its point is then passed twice.
    """
    return cross(a, b, c) == 0 and goes_on(a, b, c) <= 0


def on_stretch(point, a, b):
    """Whether a point is on a stretch, its ends among it."""
    if point[0] < min(a[0], b[0]) or point[0] > max(a[0], b[0]):
        return False
    if point[1] < min(a[1], b[1]) or point[1] > max(a[1], b[1]):
        return False
    return cross(a, b, point) == 0


def cross_over(a, b, c, d):
    """Whether two stretches cross at a point that is an end of neither."""
    if cross(a, b, c) * cross(a, b, d) >= 0:
        return False
    return cross(c, d, a) * cross(c, d, b) < 0


def have_common_point(a, b, c, d):
    """Whether two stretches have a point in common, their ends among it."""
    if on_stretch(a, c, d) or on_stretch(b, c, d):
        return True
    return on_stretch(c, a, b) or on_stretch(d, a, b) or cross_over(a, b, c, d)


def run_opposite(a, b, c, d):
    """Whether two stretches have more than a point in common and go opposite ways along it."""
    if cross(a, b, c) != 0 or cross(a, b, d) != 0:
        return False
    # Along a line points rise or fall, by x and then by y.
    if (a < b) == (c < d):
        return False
    return max(min(a, b), min(c, d)) < min(max(a, b), max(c, d))


def apart_ones_meet(stretches, closed):
    """Whether two stretches that don't follow one another have a point in common.

    In a closed row the first one follows the last.
    """
    size = len(stretches)
    for i in range(size):
        behind = size - 1 if closed and i == 0 else size
        for j in range(i + 2, behind):
            one = stretches[i]
            other = stretches[j]
            if have_common_point(one[0], one[1], other[0], other[1]):
                return True
    return False


def points_of(numbers):
    """The points that a list tells, x and y by turns. The list has an even number."""
    return [(numbers[k], numbers[k + 1]) for k in range(0, len(numbers), 2)]


def numbers_of(points):
    """The list that tells these points, x and y by turns."""
    numbers = []
    for point in points:
        numbers.extend(point)
    return numbers
