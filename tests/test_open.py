"""The call open, and what a ring must keep to."""

import unittest

from tests.lines import RECTANGLE, Line

TOO_MUCH = 1000001


def comb(points):
    """A ring that may be, of so many points (4 or more): a row of teeth along its upper side."""
    teeth = points - 3
    ring = [(0, 0), (teeth, 0)]
    ring += [(teeth - k, 5 + k % 2) for k in range(teeth)]
    ring += [(0, 5 + teeth % 2)]
    return [number for point in ring for number in point]


def opened(ring):
    return Line().open(ring=ring).last()


class TestOpen(unittest.TestCase):
    def test_twice_the_area_is_answered(self):
        self.assertEqual(opened(RECTANGLE), (0, [2400]))
        self.assertEqual(opened([0, 0, 1, 0, 0, 1]), (0, [1]))
        self.assertEqual(opened([0, 0, 7, 3, 2, 5]), (0, [29]))

    def test_parcel_0_is_there(self):
        line = Line().open(3, 44, [5, 6, 9, 6, 5, 8]).parcel(0).parcel(1)
        self.assertEqual(line.last(2), [(0, [-1, 44, 8, 0, 5, 6, 9, 6, 5, 8]), (-4, [])])

    def test_all_of_it_is_the_owners(self):
        line = Line().open(3, 44).give(0, 44, 3, 4, 1, 1)
        self.assertEqual(line.last(), (0, [0, 1]))

    def test_owner_at_the_edge(self):
        self.assertEqual(Line().open(owner=0).last(), (0, [2400]))
        self.assertEqual(Line().open(owner=1000).last(), (0, [2400]))
        self.assertEqual(Line().open(owner=1001).last(), (-1, []))

    def test_day_at_the_edge(self):
        self.assertEqual(Line().open(day=0).last(), (0, [2400]))
        self.assertEqual(Line().open(day=1000000).last(), (0, [2400]))
        self.assertEqual(Line().open(day=1000001).last(), (-1, []))

    def test_a_list_of_an_odd_number(self):
        self.assertEqual(opened(RECTANGLE + [0]), (-1, []))
        self.assertEqual(opened([0]), (-1, []))

    def test_a_wrong_value_comes_before_a_wrong_ring(self):
        self.assertEqual(Line().open(1001, 0, [1, 1]).last(), (-1, []))
        self.assertEqual(Line().open(0, 1000001, [1, 1]).last(), (-1, []))
        self.assertEqual(Line().open(0, 0, [1, 1, 1]).last(), (-1, []))
        self.assertEqual(Line().open(0, 0, [1, 1]).last(), (-3, []))

    def test_a_second_one_is_a_new_registry(self):
        line = Line().open().split(0, 20, [20, 0, 20, 30]).open(2, 5, [0, 0, 1, 0, 0, 1]).parcels(2)
        line.split(0, 4, [0, 0, 1, 1]).give(0, 5, 2, 1, 1, 2)
        self.assertEqual(line.last(5), [
            (0, [1]), (0, [-1, 5, 1, 0, 0, 0, 1, 0, 0, 1]), (-4, []), (-1, []), (0, [1, 2])])

    def test_a_refused_one_changes_nothing(self):
        for wrong in [(1001, 0, RECTANGLE), (0, 1000001, RECTANGLE), (0, 0, [0]), (0, 0, [])]:
            with self.subTest(wrong=wrong):
                line = Line().open().split(0, 20, [20, 0, 20, 30]).open(*wrong).parcels(4).undo().undo()
                found = line.last(6)
                self.assertEqual(found[0], (0, [20, 10, 2400, 0] + RECTANGLE))
                self.assertEqual([answer[0] for answer in found], [0, 0, 0, -4, 0, -5])


class TestRings(unittest.TestCase):
    def refused(self, *ring):
        self.assertEqual(opened(list(ring)), (-3, []))

    def taken(self, *ring):
        self.assertEqual(opened(list(ring))[0], 0)

    def test_how_many_points(self):
        self.refused()
        self.refused(0, 0)
        self.refused(0, 0, 4, 0)
        self.taken(0, 0, 4, 0, 0, 4)
        for points in (4, 5, 63, 64):
            self.assertEqual(len(comb(points)), 2 * points)
            self.taken(*comb(points))
        self.refused(*comb(65))
        self.refused(*comb(100))

    def test_how_far(self):
        most = 1000000
        self.assertEqual(opened([0, 0, most, 0, most, most, 0, most]), (0, [2 * most * most]))
        self.refused(0, 0, TOO_MUCH, 0, 0, 5)
        self.refused(0, 0, 5, 0, 0, TOO_MUCH)
        self.refused(0, 0, 4294967295, 0, 0, 5)

    def test_edges_that_cross(self):
        self.refused(0, 0, 10, 0, 2, 8, 8, 8)
        # A star that turns to the left at each of its points.
        self.refused(0, 6, 8, 0, 5, 10, 2, 0, 10, 6)
        # The first edge and the last but one.
        self.refused(0, 3, 10, 3, 10, 10, 5, 0, 1, 10)

    def test_edges_that_touch_at_a_point(self):
        # A point on an edge's middle, a point come to twice.
        self.refused(0, 0, 10, 0, 10, 10, 5, 0, 0, 10)
        self.refused(0, 0, 5, 5, 10, 0, 10, 10, 5, 5, 0, 10)

    def test_edges_that_lie_on_one_another(self):
        # A spike outwards, one inwards, and an edge along another one's part.
        self.refused(0, 0, 10, 0, 10, 10, 10, 14, 10, 10, 0, 10)
        self.refused(0, 0, 10, 0, 10, 10, 5, 10, 5, 5, 5, 10, 0, 10)
        self.refused(0, 0, 10, 0, 10, 4, 14, 4, 14, 0, 6, 0, 6, 10, 0, 10)
        self.refused(0, 0, 12, 0, 4, 0, 4, 8)

    def test_a_point_twice_in_a_row(self):
        self.refused(0, 0, 0, 0, 40, 0, 40, 30)
        self.refused(0, 0, 40, 0, 40, 0, 0, 30)
        self.refused(0, 0, 40, 0, 0, 30, 0, 0)
        self.refused(0, 0, 0, 0, 0, 0)

    def test_the_wrong_way_round(self):
        self.refused(0, 0, 0, 30, 40, 30, 40, 0)
        self.refused(0, 0, 0, 1, 1, 0)

    def test_no_area(self):
        self.refused(0, 0, 5, 0, 10, 0)
        self.refused(0, 0, 10, 0, 5, 0)

    def test_straight_on_at_a_point(self):
        self.refused(0, 0, 20, 0, 40, 0, 40, 30, 0, 30)
        self.refused(0, 0, 40, 0, 40, 30, 20, 20, 0, 10)
        self.refused(0, 0, 40, 0, 40, 30, 0, 30, 0, 10)
        self.refused(0, 5, 3, 0, 6, 5, 3, 5)
        self.taken(0, 0, 40, 0, 40, 30, 20, 21, 0, 10)

    def test_not_begun_at_its_first_point(self):
        points = [(0, 0), (40, 0), (40, 30), (0, 30)]
        for k in range(1, 4):
            turned = points[k:] + points[:k]
            self.refused(*[number for point in turned for number in point])

    def test_of_the_least_x_the_least_y_is_first(self):
        self.taken(0, 3, 5, 0, 9, 4, 0, 8)
        self.refused(0, 8, 0, 3, 5, 0, 9, 4)
        # The least y of all, but not the least x.
        self.refused(5, 0, 9, 4, 0, 8, 0, 3)

    def test_rings_with_turns_to_the_right(self):
        self.taken(0, 0, 10, 0, 10, 10, 5, 1, 0, 10)
        self.assertEqual(opened([0, 0, 9, 0, 9, 9, 6, 9, 6, 3, 3, 3, 3, 9, 0, 9]), (0, [126]))


if __name__ == "__main__":
    unittest.main()
