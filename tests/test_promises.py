"""Many acts by chance, compared with a model on cells, and the promises looked at after them."""

import random
import unittest

from tests.cells import Layout, Model, around, beside, is_one_ring, is_way
from tests.lines import Line, told_parcel

LAYOUTS = [(1, 0, 0, 1, 0, 0), (5, 0, 0, 3, 7, 11), (0, -4, 4, 0, 100, 3), (3, 1, 1, 2, 0, 0), (2, -3, 3, 2, 60, 1),
           (-1, 0, 0, -1, 50, 50), (1, 1, 0, 1, 4, 4), (90000, 0, 0, 90000, 100, 100)]


def some_cells(chance, size):
    """A district by chance: cells that make one ring."""
    cells = {(0, 0)}
    while len(cells) < size:
        near = sorted({cell for one in cells for cell in beside(one)
                       if 0 <= cell[0] < 9 and 0 <= cell[1] < 9} - cells)
        wider = cells | {chance.choice(near)}
        if is_one_ring(wider):
            cells = wider
    return frozenset(cells)


def border(cells):
    """The grid's points on the border of cells."""
    return sorted({p for x, y in cells for p in ((x, y), (x + 1, y), (x, y + 1), (x + 1, y + 1))
                   if not all(cell in cells for cell in around(p))})


def some_way(chance, ends):
    """A walk of some legs from one of these points, which may or may not be a way."""
    way = [chance.choice(ends)]
    upright = chance.random() < 0.5
    for leg in range(chance.randint(1, 5)):
        length = chance.choice([-4, -3, -2, -1, -1, 1, 1, 2, 3, 4])
        x, y = way[-1]
        way.append((x, max(0, y + length)) if upright else (max(0, x + length), y))
        if chance.random() < 0.9:
            upright = not upright
    return way


def good_way(chance, cells, ends, tries):
    """The first of so many walks that's a way, or the last of them."""
    for k in range(tries):
        way = some_way(chance, ends)
        if is_way(cells, way):
            break
    return way


class Play:
    """Calls by chance, made on a line and on the model alike."""

    def __init__(self, seed):
        self.chance = random.Random(seed)
        self.layout = Layout(*LAYOUTS[seed % len(LAYOUTS)])
        self.model = Model(self.layout)
        self.line = Line()
        self.expected = []
        self.day = self.chance.randint(0, 5)
        self.cells = some_cells(self.chance, self.chance.choice([4, 12, 30, 50]))

    def open(self):
        owner = self.chance.randint(0, 3)
        self.line.open(owner, self.day, self.layout.ring(self.cells))
        self.expected.append(self.model.open(owner, self.day, self.cells))

    def some_parcel(self):
        parcels = self.model.now["parcels"]
        if self.chance.random() < 0.05:
            return self.chance.randint(0, len(parcels))
        return self.chance.choice([p for p in range(len(parcels)) if parcels[p]["gone"] < 0])

    def some_day(self):
        if self.chance.random() < 0.05:
            return max(0, self.day - 1)
        self.day += self.chance.choice([0, 0, 1, 2])
        return self.day

    def split(self):
        p = self.some_parcel()
        cells = self.model.now["parcels"][min(p, len(self.model.now["parcels"]) - 1)]["cells"]
        way = good_way(self.chance, cells, border(cells), self.chance.choice([1, 60, 60, 60]))
        # Points may lie off the grid to the left and below only in the model: rows hold none below 0.
        row = self.layout.row(way)
        if min(row) >= 0:
            day = self.some_day()
            self.line.split(p, day, row)
            self.expected.append(self.model.split(p, day, way))

    def join(self):
        p, q, day = self.some_parcel(), self.some_parcel(), self.some_day()
        self.line.join(p, q, day)
        self.expected.append(self.model.join(p, q, day))

    def give(self):
        owners = self.chance.randint(0, 3), self.chance.randint(0, 3)
        d = self.chance.choice([1, 1, 2, 3, 4, 6])
        call = (self.some_parcel(), self.some_day(), *owners, self.chance.randint(1, d), d)
        self.line.give(*call)
        self.expected.append(self.model.give(*call))

    def undo(self):
        for k in range(self.chance.choice([1, 1, 2, 5])):
            self.line.undo()
            self.expected.append(self.model.undo())
        self.day = self.model.now["days"][-1]

    def parcels(self):
        size = len(self.model.now["parcels"]) + 1
        self.line.parcels(size)
        self.expected.extend([self.model.parcel(p) for p in range(size)])

    def some_acts(self, size):
        kinds = [self.split] * 6 + [self.join] * 6 + [self.give] * 2 + [self.undo]
        for k in range(size):
            self.chance.choice(kinds)()


class TestAgainstModel(unittest.TestCase):
    def test_acts_by_chance(self):
        told = []
        for seed in range(120):
            play = Play(seed)
            play.open()
            for k in range(4):
                play.some_acts(25)
                play.parcels()
            with self.subTest(seed=seed):
                found = play.line.ask()
                told.extend(found)
                self.assertEqual(found, play.expected)
        # That the chance tries enough of each.
        for number in (-1, -3, -4, -5, 0, 3, 7):
            self.assertGreater(len([answer for answer in told if answer[0] == number]), 50)


class TestPromises(unittest.TestCase):
    def test_the_areas_are_the_districts(self):
        for seed in range(200, 230):
            play = Play(seed)
            play.open()
            whole = play.expected[0][1][0]
            play.some_acts(60)
            size = len(play.model.now["parcels"])
            told = [told_parcel(answer[1]) for answer in play.line.parcels(size).ask()[-size:]]
            with self.subTest(seed=seed):
                self.assertEqual(sum(one["area"] for one in told if one["gone"] < 0), whole)
                # On every day, not on the last one alone.
                for day in range(play.model.now["days"][0], play.day + 2):
                    areas = [one["area"] for one in told if one["since"] <= day and not 0 <= one["gone"] <= day]
                    self.assertEqual(sum(areas), whole)

    def test_parts_joined_again_are_the_same_ring(self):
        done = 0
        for seed in range(300, 360):
            play = Play(seed)
            play.open()
            play.some_acts(30)
            size = len(play.model.now["parcels"])
            play.split()
            if len(play.model.now["parcels"]) == size:
                continue
            p = play.model.now["parcels"][-1]["came"][0]
            found = play.line.join(size, size + 1, play.day).parcel(size + 2).parcel(p).last(3)
            with self.subTest(seed=seed):
                self.assertEqual(found[0][0], size + 2)
                self.assertEqual(told_parcel(found[1][1])["ring"], told_parcel(found[2][1])["ring"])
            done += 1
        self.assertGreater(done, 20)

    def test_all_taken_back_is_the_beginning(self):
        for seed in range(400, 430):
            play = Play(seed)
            play.open()
            first = play.model.parcel(0)
            play.some_acts(40)
            for k in range(len(play.model.before)):
                play.line.undo()
            with self.subTest(seed=seed):
                self.assertEqual(play.line.undo().parcels(2).last(3), [(-5, []), first, (-4, [])])


if __name__ == "__main__":
    unittest.main()
