"""Small rings and ways, all of them or many by chance, compared with what fractions tell of them."""

import itertools
import random
import unittest
from fractions import Fraction

from landdays.neighbours import how_beside
from landdays.rings import is_inside, may_be, twice_area
from landdays.unions import join_rings
from landdays.ways import goes_through, split_ring


def at(p, q, t):
    return (p[0] + (q[0] - p[0]) * t, p[1] + (q[1] - p[1]) * t)


def common(p, q, r, s):
    """The ends of what two stretches have in common: none, one point, or two."""
    dx, dy, ex, ey = q[0] - p[0], q[1] - p[1], s[0] - r[0], s[1] - r[1]
    lower = dx * ey - dy * ex
    if lower != 0:
        t = Fraction((r[0] - p[0]) * ey - (r[1] - p[1]) * ex, lower)
        u = Fraction((r[0] - p[0]) * dy - (r[1] - p[1]) * dx, lower)
        return [at(p, q, t)] if 0 <= t <= 1 and 0 <= u <= 1 else []
    if (dx, dy) == (0, 0):
        if (ex, ey) == (0, 0):
            return [p] if p == r else []
        return common(r, s, p, q)
    if (r[0] - p[0]) * dy != (r[1] - p[1]) * dx:
        return []
    long = dx * dx + dy * dy
    ts = [Fraction((point[0] - p[0]) * dx + (point[1] - p[1]) * dy, long) for point in (r, s)]
    low, high = max(min(ts), Fraction(0)), min(max(ts), Fraction(1))
    if low > high:
        return []
    return [at(p, q, low)] if low == high else [at(p, q, low), at(p, q, high)]


def edges(points):
    return list(zip(points, points[1:] + points[:1]))


def goes_round(ring, point):
    """How often a ring goes round a point that's on no edge: by counting quarters of a turn."""
    def quarter(p):
        x, y = p[0] - point[0], p[1] - point[1]
        return (0 if x > 0 and y >= 0 else 1 if x <= 0 and y > 0 else 2 if x < 0 and y <= 0 else 3)
    turns = 0
    for p, q in edges(ring):
        step = (quarter(q) - quarter(p)) % 4
        if step == 2:
            side = (p[0] - point[0]) * (q[1] - point[1]) - (p[1] - point[1]) * (q[0] - point[0])
            step = 2 if side > 0 else -2
        turns += -1 if step == 3 else step
    return turns // 4


def lies_on(ring, point):
    return any(common(p, q, point, point) for p, q in edges(ring))


def ring_may_be(ring):
    size = len(ring)
    if not 3 <= size <= 64 or ring[0] != min(ring):
        return False
    around = edges(ring)
    for i in range(size):
        if len(common(*around[i], *around[i])) < 2:
            return False
        for j in range(i):
            shared = common(*around[i], *around[j])
            allowed = ([ring[i]] if j == i - 1 else []) + ([ring[0]] if j == 0 and i == size - 1 else [])
            if shared != allowed:
                return False
    for k in range(size):
        # Straight on: the point lies between its neighbours.
        if common(ring[k - 1], ring[(k + 1) % size], ring[k], ring[k]):
            return False
    return area(ring) > 0


def area(ring):
    return sum((q[0] - p[0]) * (p[1] + q[1]) for p, q in edges(ring)) * -1


def is_a_way(ring, way):
    if not 2 <= len(way) <= 20 or way[0] == way[-1]:
        return False
    if not lies_on(ring, way[0]) or not lies_on(ring, way[-1]):
        return False
    stretches = list(zip(way, way[1:]))
    for i, stretch in enumerate(stretches):
        if stretch[0] == stretch[1]:
            return False
        for j in range(i):
            if common(*stretch, *stretches[j]) != ([way[i]] if j == i - 1 else []):
                return False
        for edge in edges(ring):
            if any(point not in (way[0], way[-1]) for point in common(*stretch, *edge)):
                return False
        middle = at(*stretch, Fraction(1, 2))
        if lies_on(ring, middle) or goes_round(ring, middle) == 0:
            return False
    return True


def some_ring(chance, size, reach):
    while True:
        points = [(chance.randint(0, reach), chance.randint(0, reach)) for k in range(size)]
        first = points.index(min(points))
        ring = points[first:] + points[:first]
        if ring_may_be(ring):
            return ring


def some_way(chance, ring, reach):
    border = [(x, y) for x in range(reach + 1) for y in range(reach + 1) if lies_on(ring, (x, y))]
    inner = [(chance.randint(0, reach), chance.randint(0, reach)) for k in range(chance.choice([0, 0, 1, 1, 2, 3]))]
    return [chance.choice(border)] + inner + [chance.choice(border)]


class TestRings(unittest.TestCase):
    def test_all_small_rings(self):
        grid = [(x, y) for x in range(3) for y in range(3)]
        for size, least in ((3, 20), (4, 20)):
            taken = 0
            for ring in itertools.product(grid, repeat=size):
                ring = list(ring)
                self.assertEqual(may_be(ring), ring_may_be(ring), ring)
                taken += may_be(ring)
            self.assertGreater(taken, least)

    def test_rings_by_chance(self):
        chance = random.Random(1)
        taken = 0
        for k in range(6000):
            points = [(chance.randint(0, 5), chance.randint(0, 5)) for k in range(chance.randint(4, 7))]
            first = points.index(min(points))
            ring = points[first:] + points[:first]
            self.assertEqual(may_be(ring), ring_may_be(ring), ring)
            taken += may_be(ring)
        self.assertGreater(taken, 200)

    def test_inside(self):
        chance = random.Random(2)
        for k in range(60):
            ring = some_ring(chance, chance.randint(3, 7), 7)
            self.assertEqual(twice_area(ring), area(ring))
            for x in range(-1, 9):
                for y in range(-1, 9):
                    expected = not lies_on(ring, (x, y)) and goes_round(ring, (x, y)) == 1
                    self.assertEqual(is_inside(ring, (x, y)), expected, (ring, x, y))


def are_beside(ring, other):
    """How two rings are beside one another, told by the ends of what their edges have in common."""
    for p, q in edges(ring):
        for r, s in edges(other):
            if len(common(p, q, r, s)) == 2 and (q[0] - p[0]) * (s[0] - r[0]) + (q[1] - p[1]) * (s[1] - r[1]) < 0:
                return 2
    touches = any(lies_on(other, point) for point in ring) or any(lies_on(ring, point) for point in other)
    return 1 if touches else 0


class TestBeside(unittest.TestCase):
    def test_rings_by_chance(self):
        chance = random.Random(4)
        found = []
        rings = [some_ring(chance, chance.randint(3, 6), 5) for k in range(60)]
        for ring, other in itertools.product(rings, repeat=2):
            far = [(x + 4, y) for x, y in other]
            for near in (other, far):
                found.append(how_beside(ring, near))
                self.assertEqual(found[-1], are_beside(ring, near), (ring, near))
        for number in (0, 1, 2):
            self.assertGreater(found.count(number), 100)


class TestWays(unittest.TestCase):
    def check_parts(self, ring, way):
        left, right = split_ring(ring, way)
        self.assertTrue(ring_may_be(left) and ring_may_be(right), (ring, way))
        self.assertEqual(area(left) + area(right), area(ring))
        # A little to the left of the first stretch's middle one is in the left part.
        x, y = at(way[0], way[1], Fraction(1, 2))
        dx, dy = way[1][0] - way[0][0], way[1][1] - way[0][1]
        little = Fraction(1, 10 ** 6)
        self.assertEqual(goes_round(left, (x - dy * little, y + dx * little)), 1, (ring, way))
        self.assertEqual(goes_round(right, (x + dy * little, y - dx * little)), 1, (ring, way))
        self.assertEqual(join_rings(left, right), ring)
        self.assertEqual(join_rings(right, left), ring)

    def test_ways_by_chance(self):
        chance = random.Random(3)
        taken = 0
        for k in range(250):
            ring = some_ring(chance, chance.randint(3, 7), 6)
            for way in [some_way(chance, ring, 6) for k in range(20)]:
                expected = is_a_way(ring, way)
                self.assertEqual(goes_through(ring, way), expected, (ring, way))
                if expected:
                    taken += 1
                    self.check_parts(ring, way)
        self.assertGreater(taken, 300)


if __name__ == "__main__":
    unittest.main()
