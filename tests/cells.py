"""A model of the registry on cells of a grid, for comparison.

A parcel is a set of unit squares, told by their lower left corners; a way is a walk along the grid's lines. Nothing
here is worked out from rings: they are traced from the cells at the end, and laid out by a map that may slant them.
"""

import copy
from fractions import Fraction


class Layout:
    """A map of the grid's points to points of a district, which keeps left on the left."""

    def __init__(self, a, b, c, d, x, y):
        self.parts = (a, b, c, d, x, y)
        self.scale = a * d - b * c
        if self.scale <= 0:
            raise ValueError("left would be right")

    def point(self, p):
        a, b, c, d, x, y = self.parts
        return (a * p[0] + b * p[1] + x, c * p[0] + d * p[1] + y)

    def place(self, x, y):
        """The place on the grid, between its points too, that's laid out there."""
        a, b, c, d, left, low = self.parts
        x, y = x - left, y - low
        return (Fraction(d * x - b * y, self.scale), Fraction(a * y - c * x, self.scale))

    def ring(self, cells):
        points = [self.point(p) for p in corners(cells)]
        first = points.index(min(points))
        return [number for point in points[first:] + points[:first] for number in point]

    def row(self, way):
        return [number for p in way for number in self.point(p)]


def around(p):
    """The four cells that have a grid's point as a corner."""
    x, y = p
    return [(x, y), (x - 1, y), (x - 1, y - 1), (x, y - 1)]


def at_place(place):
    """The cells that a place on the grid is in or on the border of."""
    x, y = place
    xs = [x // 1 - 1, x // 1] if x % 1 == 0 else [x // 1]
    ys = [y // 1 - 1, y // 1] if y % 1 == 0 else [y // 1]
    return [(int(x), int(y)) for x in xs for y in ys]


def sides(p, q):
    """The cells to the left and to the right of a step from one grid's point to the next."""
    x, y = p
    step = (q[0] - p[0], q[1] - p[1])
    return {(1, 0): ((x, y), (x, y - 1)), (-1, 0): ((x - 1, y - 1), (x - 1, y)),
            (0, 1): ((x - 1, y), (x, y)), (0, -1): ((x, y - 1), (x - 1, y - 1))}[step]


def beside(cell):
    x, y = cell
    return [(x + 1, y), (x - 1, y), (x, y + 1), (x, y - 1)]


def flood(start, allowed, passes=lambda one, other: True):
    seen, todo = {start}, [start]
    while todo:
        cell = todo.pop()
        for other in beside(cell):
            if other in allowed and other not in seen and passes(cell, other):
                seen.add(other)
                todo.append(other)
    return seen


def is_one_ring(cells):
    """Whether cells hang together, without a hole and without touching at a point alone."""
    cells = set(cells)
    if not cells or flood(next(iter(cells)), cells) != cells:
        return False
    xs, ys = [x for x, y in cells], [y for x, y in cells]
    frame = {(x, y) for x in range(min(xs) - 1, max(xs) + 2) for y in range(min(ys) - 1, max(ys) + 2)}
    outside = frame - cells
    if flood((min(xs) - 1, min(ys) - 1), outside) != outside:
        return False
    for x, y in frame:
        square = [cell in cells for cell in around((x, y))]
        if square in ([True, False, True, False], [False, True, False, True]):
            return False
    return True


def border_steps(cells):
    """The steps along the border of cells, from grid's point to grid's point, with the cells to the left."""
    steps = {}
    for cell in cells:
        x, y = cell
        square = [(x, y), (x + 1, y), (x + 1, y + 1), (x, y + 1)]
        for p, q in zip(square, square[1:] + square[:1]):
            if sides(p, q)[1] not in cells:
                steps[p] = q
    return steps


def corners(cells):
    """The grid's points at which the border of cells turns, one behind another with the cells to the left."""
    steps = border_steps(cells)
    first = min(steps)
    walk, p = [first], steps[first]
    while p != first:
        walk.append(p)
        p = steps[p]
    return [q for p, q, r in zip(walk[-1:] + walk[:-1], walk, walk[1:] + walk[:1])
            if (q[0] - p[0], q[1] - p[1]) != (r[0] - q[0], r[1] - q[1])]


def steps_of(way):
    """All grid's points along a way, told by points of which each lies level or upright of the next."""
    walk = [way[0]]
    for p, q in zip(way, way[1:]):
        length = max(abs(q[0] - p[0]), abs(q[1] - p[1]))
        for k in range(1, length + 1):
            walk.append((p[0] + (q[0] - p[0]) * k // length, p[1] + (q[1] - p[1]) * k // length))
        if length == 0:
            walk.append(q)
    return walk


def is_way(cells, way):
    if not 2 <= len(way) <= 20:
        return False
    walk = steps_of(way)
    if len(set(walk)) != len(walk):
        return False
    for end in (walk[0], walk[-1]):
        if sum(cell in cells for cell in around(end)) in (0, 4):
            return False
    if not all(all(cell in cells for cell in around(p)) for p in walk[1:-1]):
        return False
    return all(all(cell in cells for cell in sides(p, q)) for p, q in zip(walk, walk[1:]))


def split_cells(cells, way):
    walk = steps_of(way)
    walls = {frozenset(sides(p, q)) for p, q in zip(walk, walk[1:])}
    left = flood(sides(walk[0], walk[1])[0], cells, lambda one, other: frozenset((one, other)) not in walls)
    return frozenset(left), frozenset(set(cells) - left)


class Model:
    """A registry of cells; every answer is a tuple of a number and a list, as the document tells it."""

    def __init__(self, layout):
        self.layout = layout
        self.now = None
        self.before = []

    def open(self, owner, day, cells):
        self.now = {"days": [day], "parcels": [self.new(cells, day, [], {owner: Fraction(1)})]}
        self.before = []
        return (0, [self.area(cells)])

    def new(self, cells, day, came, shares):
        return {"cells": frozenset(cells), "since": day, "gone": -1, "came": came, "shares": dict(shares)}

    def area(self, cells):
        return 2 * len(cells) * self.layout.scale

    def refusal(self, ps, day, made):
        if day < self.now["days"][-1] or day > 1000000:
            return -1
        if any(p >= len(self.now["parcels"]) or self.now["parcels"][p]["gone"] >= 0 for p in ps):
            return -4
        return -2 if made + len(self.now["parcels"]) > 200 else 0

    def act(self, day):
        self.before.append(copy.deepcopy(self.now))
        self.now["days"].append(day)

    def end(self, ps, day, parts):
        self.act(day)
        shares = self.now["parcels"][ps[0]]["shares"]
        for p in ps:
            self.now["parcels"][p]["gone"] = day
        for part in parts:
            self.now["parcels"].append(self.new(part, day, ps, shares))
        return (len(self.now["parcels"]) - len(parts), [self.area(part) for part in parts])

    def split(self, p, day, way):
        refusal = self.refusal([p], day, 2)
        if refusal:
            return (refusal, [])
        cells = self.now["parcels"][p]["cells"]
        if not is_way(cells, way):
            return (-3, [])
        parts = split_cells(cells, way)
        if max(len(corners(part)) for part in parts) > 64:
            return (-2, [])
        return self.end([p], day, parts)

    def join(self, p, q, day):
        refusal = -1 if p == q else self.refusal([p, q], day, 1)
        if refusal:
            return (refusal, [])
        one, other = self.now["parcels"][p], self.now["parcels"][q]
        if one["shares"] != other["shares"]:
            return (-5, [])
        cells = one["cells"] | other["cells"]
        if not is_one_ring(cells) or len(corners(cells)) > 64:
            return (-3, [])
        return self.end(sorted([p, q]), day, [cells])

    def give(self, p, day, a, b, n, d):
        if a > 1000 or b > 1000 or a == b or not 0 < d <= 1000 or not 0 < n <= d:
            return (-1, [])
        refusal = self.refusal([p], day, 0)
        if refusal:
            return (refusal, [])
        left = self.now["parcels"][p]["shares"].get(a, Fraction(0)) - Fraction(n, d)
        if left < 0:
            return (-5, [])
        self.act(day)
        shares = self.now["parcels"][p]["shares"]
        shares[a] = left
        shares[b] = shares.get(b, Fraction(0)) + Fraction(n, d)
        if left == 0:
            del shares[a]
        return (0, [left.numerator, left.denominator])

    def undo(self):
        if not self.before:
            return (-5, [])
        self.now = self.before.pop()
        return (len(self.before), [])

    def parcel(self, p):
        if p >= len(self.now["parcels"]):
            return (-4, [])
        one = self.now["parcels"][p]
        told = [one["gone"], one["since"], self.area(one["cells"]), len(one["came"])]
        return (0, told + one["came"] + self.layout.ring(one["cells"]))

    def on(self, day):
        """The parcels as they were when all acts up to that day were done, by their numbers; gone ones left out."""
        states = [state for state in self.before + [self.now] if state["days"][-1] <= day]
        if not states:
            return {}
        return {p: one for p, one in enumerate(states[-1]["parcels"]) if one["gone"] < 0}

    def at(self, x, y, day):
        near = at_place(self.layout.place(x, y))
        inside, touched = 0, []
        for p, one in self.on(day).items():
            covered = [cell in one["cells"] for cell in near]
            inside += all(covered)
            touched += [p] if any(covered) else []
        return (inside, touched)

    def there(self, day):
        return (len(self.on(day)), list(self.on(day)))

    def whose(self, p, day):
        if p >= len(self.now["parcels"]):
            return (-4, [])
        if p not in self.on(day):
            return (-5, [])
        shares = self.on(day)[p]["shares"]
        told = [(owner, share.numerator, share.denominator) for owner, share in sorted(shares.items())]
        return (len(told), [number for row in told for number in row])

    def holds(self, owner, day):
        held = [(one["shares"][owner], one["cells"]) for one in self.on(day).values() if owner in one["shares"]]
        area = sum([share * len(cells) * self.layout.scale for share, cells in held], Fraction(0))
        return (len(held), [area.numerator, area.denominator])

    def beside(self, p, q):
        if max(p, q) >= len(self.now["parcels"]):
            return (-4, [])
        one, other = [self.now["parcels"][each]["cells"] for each in (p, q)]
        steps, others = border_steps(one), border_steps(other)
        if any(others.get(b) == a for a, b in steps.items()):
            return (2, [])
        return (1 if set(corners(one)) & set(others) or set(corners(other)) & set(steps) else 0, [])

    def acts(self):
        return (len(self.before), [self.now["days"][-1], len(self.now["parcels"])])
