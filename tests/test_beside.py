"""The call beside: how the rings of two parcels are beside one another."""

import unittest

from tests.lines import Line

SQUARE = [0, 0, 30, 0, 30, 30, 0, 30]
MOST = 4294967295


def quarters():
    """Of the square 3 is the upper left quarter, 4 the lower left, 5 the upper right, 6 the lower right."""
    line = Line().open(7, 10, SQUARE).split(0, 12, [15, 0, 15, 30])
    return line.split(1, 14, [0, 15, 15, 15]).split(2, 16, [15, 15, 30, 15])


class TestBeside(unittest.TestCase):
    def check(self, line, p, q, number):
        with self.subTest(p=p, q=q):
            self.assertEqual(line.beside(p, q).beside(q, p).last(2), [(number, [])] * 2)

    def test_a_whole_edge_in_common(self):
        line = quarters()
        for p, q in ((1, 2), (3, 4), (5, 6), (3, 5), (4, 6)):
            self.check(line, p, q, 2)

    def test_a_corner_in_common(self):
        # Their edges on the line x 15 go opposite ways, but have a point alone in common.
        self.check(quarters(), 3, 6, 1)
        self.check(quarters(), 4, 5, 1)

    def test_part_of_an_edge_in_common(self):
        line = Line().open(7, 10, SQUARE).split(0, 10, [15, 0, 15, 30])
        line.split(1, 10, [0, 10, 15, 10]).split(2, 10, [15, 20, 30, 20])
        # 3 is upper left from y 10, 4 below it; 5 is upper right from y 20, 6 below it.
        for p, q, number in ((3, 6, 2), (4, 6, 2), (3, 5, 2), (4, 5, 0), (3, 4, 2), (5, 6, 2)):
            self.check(line, p, q, number)
        # An edge within the other's, and one that ends with it.
        self.check(line, 1, 6, 2)
        self.check(line, 2, 4, 2)

    def test_part_of_a_slanting_edge_in_common(self):
        line = Line().open(7, 10, [0, 0, 12, 0, 12, 12, 0, 12]).split(0, 10, [0, 0, 12, 12])
        line.split(1, 10, [4, 4, 4, 12]).split(2, 10, [8, 8, 8, 0])
        # 3 is to the left of x 4 above the slant, 4 to its right; 5 is right of x 8 below the slant, 6 left of it.
        self.assertEqual(line.parcels(7).last(4)[0][1][5:], [0, 0, 4, 4, 4, 12, 0, 12])
        self.assertEqual(line.last(2)[0][1][5:], [8, 0, 12, 0, 12, 12, 8, 8])
        for p, q, number in ((4, 6, 2), (3, 6, 2), (4, 5, 2), (3, 5, 0), (1, 2, 2)):
            self.check(line, p, q, number)

    def test_a_point_on_the_others_edge(self):
        line = Line().open(7, 10, SQUARE).split(0, 10, [0, 15, 30, 15])
        line.split(2, 10, [10, 0, 15, 15]).split(4, 10, [15, 15, 20, 0])
        # 1 is the upper half, 6 a triangle below it between 3 and 5.
        self.assertEqual(line.parcel(6).last()[1][5:], [10, 0, 20, 0, 15, 15])
        self.check(line, 1, 6, 1)
        self.check(line, 1, 3, 2)
        self.check(line, 3, 6, 2)
        self.check(line, 3, 5, 1)

    def test_on_one_line_but_apart(self):
        line = Line().open(7, 10, SQUARE).split(0, 10, [10, 0, 10, 30]).split(2, 10, [20, 0, 20, 30])
        # Strips from x 0, 10 and 20: the outer ones' lower edges lie on one line.
        self.check(line, 1, 4, 0)
        self.check(line, 1, 3, 2)
        self.check(line, 3, 4, 2)

    def test_one_with_itself(self):
        line = quarters()
        for p in range(7):
            self.check(line, p, p, 1)

    def test_with_the_one_that_it_came_out_of(self):
        # They've stretches in common, but go the same way along them.
        line = quarters()
        for p, q in ((0, 1), (0, 2), (1, 3), (1, 4), (2, 5), (2, 6), (0, 3), (0, 6)):
            self.check(line, p, q, 1)

    def test_with_ones_that_are_gone(self):
        line = quarters()
        self.check(line, 1, 5, 2)
        self.check(line, 2, 3, 2)
        line.join(3, 5, 20).join(4, 6, 22).join(7, 8, 24)
        # 7 is the upper half, 8 the lower one, 9 all again.
        self.check(line, 7, 8, 2)
        self.check(line, 7, 1, 1)
        self.check(line, 7, 4, 2)
        self.check(line, 9, 0, 1)
        self.check(line, 3, 6, 1)

    def test_the_midst_of_a_gone_district(self):
        line = Line().open(7, 10, SQUARE).split(0, 10, [10, 0, 10, 30]).split(2, 10, [20, 0, 20, 30])
        line.split(3, 10, [10, 10, 20, 10]).split(5, 10, [10, 20, 20, 20])
        self.assertEqual(line.parcel(8).last()[1][5:], [10, 10, 20, 10, 20, 20, 10, 20])
        self.check(line, 0, 8, 0)
        self.check(line, 2, 8, 1)
        self.check(line, 1, 8, 2)

    def test_edges_that_only_cross(self):
        # A strip from left to right and a later one upwards: no point of either ring is on the other's edge.
        line = Line().open(7, 10, SQUARE).split(0, 10, [0, 10, 30, 10]).split(1, 10, [0, 20, 30, 20])
        line.join(3, 4, 11).join(5, 2, 11).split(6, 12, [10, 0, 10, 30]).split(8, 12, [20, 0, 20, 30])
        found = line.parcel(4).parcel(9).last(2)
        self.assertEqual(found[0][1][5:], [0, 10, 30, 10, 30, 20, 0, 20])
        self.assertEqual(found[1][1][5:], [10, 0, 20, 0, 20, 30, 10, 30])
        self.check(line, 4, 9, 0)
        # With the strip at the side it has a stretch in common, gone the same way.
        self.check(line, 4, 7, 1)

    def test_opposite_along_one_stretch_and_the_same_way_along_another(self):
        # A gone half, and a later parcel that lies beside it above and over it below.
        line = Line().open(7, 10, SQUARE).split(0, 10, [15, 0, 15, 30]).join(1, 2, 11)
        line.split(3, 12, [0, 10, 15, 10, 15, 30])
        self.assertEqual(line.parcel(5).last()[1][5:], [0, 0, 30, 0, 30, 30, 15, 30, 15, 10, 0, 10])
        self.check(line, 1, 5, 2)
        self.check(line, 2, 5, 1)
        self.check(line, 4, 5, 2)

    def test_on_no_day_there(self):
        line = Line().open(7, 10, SQUARE).split(0, 10, [15, 0, 15, 30]).join(1, 2, 10)
        self.check(line, 1, 2, 2)
        self.check(line, 1, 3, 1)

    def test_no_such_parcel(self):
        line = quarters()
        for p, q in ((3, 7), (7, 7), (0, MOST), (MOST, MOST), (7, 8)):
            self.check(line, p, q, -4)
        self.check(line.undo(), 1, 5, -4)

    def test_great_coordinates(self):
        most = 1000000
        line = Line().open(7, 10, [0, 0, most, 0, most, most, 0, most]).split(0, 10, [0, 0, most, most])
        line.split(1, 10, [0, 1, most - 1, most])
        # 3 is beyond the thin strip 4 along the slant.
        self.check(line, 1, 2, 2)
        self.check(line, 4, 2, 2)
        self.check(line, 3, 2, 0)


if __name__ == "__main__":
    unittest.main()
