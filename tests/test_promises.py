"""Many acts by chance, compared with a model on cells, and the promises looked at after them."""

import itertools
import random
import unittest
from fractions import Fraction

from tests.battery import answers_on
from tests.cells import Layout, Model, around, beside, corners, is_one_ring, is_way
from tests.lines import Line, told_parcel

LAYOUTS = [(1, 0, 0, 1, 0, 0), (5, 0, 0, 3, 7, 11), (0, -4, 4, 0, 100, 3), (3, 1, 1, 2, 0, 0), (2, -3, 3, 2, 60, 1),
           (-1, 0, 0, -1, 50, 50), (1, 1, 0, 1, 4, 4), (90000, 0, 0, 90000, 100, 100)]


def some_cells(chance, size):
    """A district by chance: cells that make one ring."""
    cells = {(0, 0)}
    while len(cells) < size:
        near = sorted({cell for one in cells for cell in beside(one)
                       if 0 <= cell[0] < 9 and 0 <= cell[1] < 9} - cells)
        wider = cells | {chance.choice(near)}
        if is_one_ring(wider):
            cells = wider
    return frozenset(cells)


def border(cells):
    """The grid's points on the border of cells."""
    return sorted({p for x, y in cells for p in ((x, y), (x + 1, y), (x, y + 1), (x + 1, y + 1))
                   if not all(cell in cells for cell in around(p))})


def some_way(chance, ends):
    """A walk of some legs from one of these points, which may or may not be a way."""
    way = [chance.choice(ends)]
    upright = chance.random() < 0.5
    for leg in range(chance.randint(1, 5)):
        length = chance.choice([-4, -3, -2, -1, -1, 1, 1, 2, 3, 4])
        x, y = way[-1]
        way.append((x, max(0, y + length)) if upright else (max(0, x + length), y))
        if chance.random() < 0.9:
            upright = not upright
    return way


def good_way(chance, cells, ends, tries):
    """The first of so many walks that's a way, or the last of them."""
    for k in range(tries):
        way = some_way(chance, ends)
        if is_way(cells, way):
            break
    return way


class Play:
    """Calls by chance, made on a line and on the model alike."""

    def __init__(self, seed):
        self.chance = random.Random(seed)
        self.layout = Layout(*LAYOUTS[seed % len(LAYOUTS)])
        self.model = Model(self.layout)
        self.line = Line()
        self.expected = []
        self.asked = []
        self.day = self.chance.randint(0, 5)
        self.cells = some_cells(self.chance, self.chance.choice([4, 12, 30, 50]))

    def open(self):
        owner = self.chance.randint(0, 3)
        self.line.open(owner, self.day, self.layout.ring(self.cells))
        self.expected.append(self.model.open(owner, self.day, self.cells))

    def some_parcel(self):
        parcels = self.model.now["parcels"]
        if self.chance.random() < 0.05:
            return self.chance.randint(0, len(parcels))
        return self.chance.choice([p for p in range(len(parcels)) if parcels[p]["gone"] < 0])

    def some_day(self):
        if self.chance.random() < 0.05:
            return max(0, self.day - 1)
        self.day += self.chance.choice([0, 0, 1, 2])
        return self.day

    def split(self):
        p = self.some_parcel()
        cells = self.model.now["parcels"][min(p, len(self.model.now["parcels"]) - 1)]["cells"]
        way = good_way(self.chance, cells, border(cells), self.chance.choice([1, 60, 60, 60]))
        # Points may lie off the grid to the left and below only in the model: rows hold none below 0.
        row = self.layout.row(way)
        if min(row) >= 0:
            day = self.some_day()
            self.line.split(p, day, row)
            self.expected.append(self.model.split(p, day, way))

    def join(self):
        p, q, day = self.some_parcel(), self.some_parcel(), self.some_day()
        self.line.join(p, q, day)
        self.expected.append(self.model.join(p, q, day))

    def give(self):
        owners = self.chance.randint(0, 3), self.chance.randint(0, 3)
        d = self.chance.choice([1, 1, 2, 3, 4, 6])
        call = (self.some_parcel(), self.some_day(), *owners, self.chance.randint(1, d), d)
        self.line.give(*call)
        self.expected.append(self.model.give(*call))

    def undo(self):
        for k in range(self.chance.choice([1, 1, 2, 5])):
            self.line.undo()
            self.expected.append(self.model.undo())
        self.day = self.model.now["days"][-1]

    def parcels(self):
        size = len(self.model.now["parcels"]) + 1
        self.line.parcels(size)
        self.expected.extend([self.model.parcel(p) for p in range(size)])

    def ask(self, name, *numbers):
        getattr(self.line, name)(*numbers)
        self.expected.append(getattr(self.model, name)(*numbers))
        self.asked.append((name, self.expected[-1][0], len(self.expected[-1][1])))

    def asked_day(self):
        if self.chance.random() < 0.05:
            return self.chance.choice([0, 1000000, 1000001, 4294967295])
        return max(0, self.chance.randint(self.model.now["days"][0] - 2, self.day + 2))

    def asked_point(self):
        """Mostly a corner of a parcel's or another point of the grid's or one near it, rarely one far away."""
        if self.chance.random() < 0.02:
            return self.chance.choice([(0, 0), (4294967295, 5), (5, 4294967295)])
        if self.chance.random() < 0.5:
            return self.layout.point(self.chance.choice(corners(self.chance.choice(self.model.now["parcels"])["cells"])))
        x, y = self.layout.point((self.chance.randint(-1, 10), self.chance.randint(-1, 10)))
        if self.chance.random() < 0.5:
            x, y = x + self.chance.randint(-3, 3), y + self.chance.randint(-3, 3)
        return (x, y) if min(x, y) >= 0 else self.asked_point()

    def any_parcel(self):
        return self.chance.randint(0, len(self.model.now["parcels"]))

    def some_questions(self, size):
        for k in range(size):
            day = self.asked_day()
            self.ask("at", *self.asked_point(), day)
            self.ask(*self.chance.choice([("there", day), ("acts",), ("holds", self.chance.randint(0, 4), day)]))
            self.ask("whose", self.any_parcel(), day)
            self.ask("beside", self.any_parcel(), self.any_parcel())

    def some_acts(self, size, gifts=2, undos=1):
        kinds = [self.split] * 6 + [self.join] * 6 + [self.give] * gifts + [self.undo] * undos
        for k in range(size):
            self.chance.choice(kinds)()


class TestAgainstModel(unittest.TestCase):
    def test_acts_by_chance(self):
        told = []
        for seed in range(120):
            play = Play(seed)
            play.open()
            for k in range(4):
                play.some_acts(25)
                play.parcels()
            with self.subTest(seed=seed):
                found = play.line.ask()
                told.extend(found)
                self.assertEqual(found, play.expected)
        # That the chance tries enough of each.
        for number in (-1, -3, -4, -5, 0, 3, 7):
            self.assertGreater(len([answer for answer in told if answer[0] == number]), 50)


    def test_questions_by_chance(self):
        asked = []
        for seed in range(500, 620):
            play = Play(seed)
            play.open()
            for k in range(3):
                play.some_acts(18, gifts=8)
                play.some_questions(16)
            asked.extend(play.asked)
            with self.subTest(seed=seed):
                self.assertEqual(play.line.ask(), play.expected)
        # That the chance tries enough of each: a call, the answer's number, how many its list has.
        for each in (("at", 0, 0), ("at", 1, 1), ("at", 0, 1), ("at", 0, 2), ("at", 0, 3), ("there", 0, 0),
                     ("there", 3, 3), ("whose", -4, 0), ("whose", -5, 0), ("whose", 1, 3), ("whose", 2, 6),
                     ("whose", 3, 9), ("holds", 0, 2), ("holds", 1, 2), ("holds", 2, 2), ("beside", -4, 0),
                     ("beside", 0, 0), ("beside", 1, 0), ("beside", 2, 0), ("acts", 3, 2)):
            self.assertGreater(asked.count(each), 10, each)


class TestPromises(unittest.TestCase):
    def test_the_areas_are_the_districts(self):
        for seed in range(200, 230):
            play = Play(seed)
            play.open()
            whole = play.expected[0][1][0]
            play.some_acts(60)
            size = len(play.model.now["parcels"])
            told = [told_parcel(answer[1]) for answer in play.line.parcels(size).ask()[-size:]]
            with self.subTest(seed=seed):
                self.assertEqual(sum(one["area"] for one in told if one["gone"] < 0), whole)
                # On every day, not on the last one alone.
                for day in range(play.model.now["days"][0], play.day + 2):
                    areas = [one["area"] for one in told if one["since"] <= day and not 0 <= one["gone"] <= day]
                    self.assertEqual(sum(areas), whole)

    def test_all_that_is_held_is_the_land(self):
        for seed in range(230, 250):
            play = Play(seed)
            play.open()
            whole = Fraction(play.expected[0][1][0], 2)
            play.some_acts(50, gifts=8)
            for day in range(play.model.now["days"][0], play.day + 2):
                held = answers_on(play.line, [[10, owner, day] for owner in range(5)])
                with self.subTest(seed=seed, day=day):
                    self.assertEqual(sum(Fraction(*answer[1]) for answer in held), whole)

    def test_no_land_is_twice_and_none_is_left_out(self):
        for seed in range(250, 262):
            play = Play(seed)
            play.open()
            play.some_acts(30)
            for day in range(play.model.now["days"][0], play.day + 2):
                with self.subTest(seed=seed, day=day):
                    self.check_points(play, day)

    def check_points(self, play, day):
        points = [p for p in itertools.product(range(11), repeat=2) if min(play.layout.point(p)) >= 0]
        answered = answers_on(play.line, [[7, *play.layout.point(p), day] for p in points])
        for p, (number, found) in zip(points, answered):
            cells = sum(cell in play.cells for cell in around(p))
            if cells == 0:
                self.assertEqual((number, found), (0, []), p)
            elif cells == 4:
                # Inside the district: inside just one, or on the edges of more.
                self.assertEqual(number, 1 if len(found) == 1 else 0, p)
                self.assertGreater(len(found), 0, p)
            else:
                self.assertEqual((number, len(found) > 0), (0, True), p)

    def test_parts_joined_again_are_the_same_ring(self):
        done = 0
        for seed in range(300, 360):
            play = Play(seed)
            play.open()
            play.some_acts(30)
            size = len(play.model.now["parcels"])
            play.split()
            if len(play.model.now["parcels"]) == size:
                continue
            p = play.model.now["parcels"][-1]["came"][0]
            found = play.line.join(size, size + 1, play.day).parcel(size + 2).parcel(p).last(3)
            with self.subTest(seed=seed):
                self.assertEqual(found[0][0], size + 2)
                self.assertEqual(told_parcel(found[1][1])["ring"], told_parcel(found[2][1])["ring"])
            done += 1
        self.assertGreater(done, 20)

    def test_all_taken_back_is_the_beginning(self):
        for seed in range(400, 430):
            play = Play(seed)
            play.open()
            first = play.model.parcel(0)
            play.some_acts(40)
            for k in range(len(play.model.before)):
                play.line.undo()
            with self.subTest(seed=seed):
                self.assertEqual(play.line.undo().parcels(2).last(3), [(-5, []), first, (-4, [])])


if __name__ == "__main__":
    unittest.main()
