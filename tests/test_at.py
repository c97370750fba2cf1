"""The calls at and there: where a point lay on a day, and which parcels there were."""

import unittest

from tests.lines import RECTANGLE, Line

UPWARDS = [20, 0, 20, 30]
MOST = 4294967295


def halves():
    """The rectangle, opened on day 10, on day 20 split in 1 to the left of x 20 and 2 to the right."""
    return Line().open(7, 10).split(0, 20, UPWARDS)


def thirds():
    """Of the halves the right one split on day 30 in 3 above y 15 and 4 below."""
    return halves().split(2, 30, [20, 15, 40, 15])


class TestWhere(unittest.TestCase):
    def at(self, x, y, line=None):
        return (line or thirds()).at(x, y, 30).last()

    def test_inside_one(self):
        self.assertEqual(self.at(10, 15), (1, [1]))
        self.assertEqual(self.at(30, 20), (1, [3]))
        self.assertEqual(self.at(30, 10), (1, [4]))
        self.assertEqual(self.at(1, 1), (1, [1]))
        self.assertEqual(self.at(19, 29), (1, [1]))

    def test_on_the_edge_of_one(self):
        for x, y, p in ((0, 15, 1), (10, 0, 1), (10, 30, 1), (30, 0, 4), (40, 10, 4), (40, 20, 3), (30, 30, 3)):
            with self.subTest(x=x, y=y):
                self.assertEqual(self.at(x, y), (0, [p]))

    def test_on_the_edges_of_two(self):
        self.assertEqual(halves().at(20, 10, 20).last(), (0, [1, 2]))
        self.assertEqual(self.at(20, 10), (0, [1, 4]))
        self.assertEqual(self.at(20, 20), (0, [1, 3]))
        self.assertEqual(self.at(30, 15), (0, [3, 4]))

    def test_on_the_edges_of_three(self):
        # On the left one's edge between two of its points, a corner of the other two.
        self.assertEqual(self.at(20, 15), (0, [1, 3, 4]))

    def test_on_the_edges_of_four(self):
        line = thirds().split(1, 30, [20, 15, 0, 15])
        self.assertEqual(line.at(20, 15, 30).last(), (0, [3, 4, 5, 6]))

    def test_at_a_rings_corner(self):
        self.assertEqual(self.at(0, 0), (0, [1]))
        self.assertEqual(self.at(0, 30), (0, [1]))
        self.assertEqual(self.at(40, 30), (0, [3]))
        self.assertEqual(self.at(40, 0), (0, [4]))
        self.assertEqual(self.at(20, 0), (0, [1, 4]))
        self.assertEqual(self.at(40, 15), (0, [3, 4]))

    def test_outside_all(self):
        for x, y in ((41, 15), (20, 31), (41, 31), (41, 0), (0, 31), (60, 15), (41, 30), (40, 31)):
            with self.subTest(x=x, y=y):
                self.assertEqual(self.at(x, y), (0, []))

    def test_left_of_a_district_and_below_it(self):
        line = Line().open(7, 30, [5, 6, 9, 6, 9, 9, 5, 9])
        for x, y in ((0, 0), (4, 7), (7, 5), (4, 6), (5, 5), (0, 6), (0, 9), (5, 0)):
            with self.subTest(x=x, y=y):
                self.assertEqual(line.at(x, y, 30).last(), (0, []))
        self.assertEqual(line.at(5, 6, 30).at(6, 7, 30).last(2), [(0, [0]), (1, [0])])

    def test_coordinates_above_1000000(self):
        whole = [0, 0, 1000000, 0, 1000000, 1000000, 0, 1000000]
        line = Line().open(7, 10, whole)
        for x, y in ((1000001, 5), (5, 1000001), (1000001, 1000001), (MOST, 5), (5, MOST), (MOST, MOST), (MOST, 0)):
            with self.subTest(x=x, y=y):
                self.assertEqual(line.at(x, y, 10).last(), (0, []))
        line.at(1000000, 5, 10).at(1000000, 1000000, 10).at(999999, 999999, 10)
        self.assertEqual(line.last(3), [(0, [0]), (0, [0]), (1, [0])])

    def test_in_a_notch(self):
        line = Line().open(7, 30, [0, 0, 40, 0, 40, 30, 30, 30, 30, 10, 10, 10, 10, 30, 0, 30])
        places = ((20, 20, 0, []), (20, 30, 0, []), (20, 10, 0, [0]), (10, 20, 0, [0]), (30, 10, 0, [0]),
                  (5, 20, 1, [0]), (5, 10, 1, [0]), (35, 10, 1, [0]), (20, 9, 1, [0]), (5, 30, 0, [0]))
        for x, y, number, found in places:
            with self.subTest(x=x, y=y):
                self.assertEqual(line.at(x, y, 30).last(), (number, found))

    def test_slanting_edges(self):
        line = Line().open(7, 30, [0, 0, 12, 0, 12, 12, 0, 12]).split(0, 30, [0, 0, 12, 12])
        places = ((6, 6, 0, [1, 2]), (5, 6, 1, [1]), (6, 5, 1, [2]), (0, 0, 0, [1, 2]), (12, 12, 0, [1, 2]),
                  (13, 13, 0, []), (0, 5, 0, [1]), (12, 5, 0, [2]))
        for x, y, number, found in places:
            with self.subTest(x=x, y=y):
                self.assertEqual(line.at(x, y, 30).last(), (number, found))

    def test_at_the_height_of_corners(self):
        # Corners to the right of the point: passed, touched from above, touched from below.
        line = Line().open(7, 30, [0, 5, 4, 0, 8, 4, 12, 0, 16, 5, 12, 10, 8, 6, 4, 10])
        places = ((4, 5, 1, [0]), (8, 5, 1, [0]), (12, 5, 1, [0]), (17, 5, 0, []), (1, 4, 1, [0]), (0, 4, 0, []),
                  (4, 4, 1, [0]), (4, 6, 1, [0]), (8, 4, 0, [0]), (8, 3, 0, []), (8, 7, 0, []), (0, 0, 0, []),
                  (0, 10, 0, []), (8, 10, 0, []), (8, 0, 0, []), (0, 6, 0, []), (3, 4, 1, [0]))
        for x, y, number, found in places:
            with self.subTest(x=x, y=y):
                self.assertEqual(line.at(x, y, 30).last(), (number, found))


class TestWhen(unittest.TestCase):
    def test_days_of_a_point_inside(self):
        line = thirds().join(3, 4, 40)
        days = ((0, 0, []), (9, 0, []), (10, 1, [0]), (11, 1, [0]), (19, 1, [0]), (20, 1, [2]), (25, 1, [2]),
                (29, 1, [2]), (30, 1, [4]), (39, 1, [4]), (40, 1, [5]), (41, 1, [5]), (999999, 1, [5]),
                (1000000, 1, [5]), (1000001, 1, [5]), (MOST, 1, [5]))
        for day, number, found in days:
            with self.subTest(day=day):
                self.assertEqual(line.at(30, 10, day).last(), (number, found))

    def test_days_of_a_point_on_edges(self):
        line = thirds().join(3, 4, 40)
        days = ((9, 0, []), (10, 1, [0]), (19, 1, [0]), (20, 0, [1, 2]), (29, 0, [1, 2]), (30, 0, [1, 3, 4]),
                (39, 0, [1, 3, 4]), (40, 0, [1, 5]), (1000001, 0, [1, 5]))
        for day, number, found in days:
            with self.subTest(day=day):
                self.assertEqual(line.at(20, 15, day).last(), (number, found))

    def test_a_parcel_that_came_and_went_on_one_day(self):
        line = halves().split(2, 20, [20, 15, 40, 15]).at(30, 10, 19).at(30, 10, 20).at(30, 10, 21)
        self.assertEqual(line.last(3), [(1, [0]), (1, [4]), (1, [4])])

    def test_an_opening_on_the_last_day(self):
        line = Line().open(7, 1000000).split(0, 1000000, UPWARDS)
        line.at(5, 5, 999999).at(5, 5, 1000000).at(5, 5, 1000001).at(5, 5, MOST)
        self.assertEqual(line.last(4), [(0, []), (1, [1]), (1, [1]), (1, [1])])

    def test_an_opening_on_day_0(self):
        self.assertEqual(Line().open(7, 0).at(5, 5, 0).last(), (1, [0]))

    def test_a_new_open_forgets_the_old_days(self):
        line = halves().open(7, 25).at(5, 5, 20).at(5, 5, 25).at(20, 10, 25).there(20).there(25)
        self.assertEqual(line.last(5), [(0, []), (1, [0]), (1, [0]), (0, []), (1, [0])])


class TestThere(unittest.TestCase):
    def check_days(self, line, days):
        """days: of each day from the first told one on, till the next one, the parcels that are there."""
        for k, (day, found) in enumerate(days):
            last = days[k + 1][0] if k + 1 < len(days) else day + 3
            for each in range(day, last):
                with self.subTest(day=each):
                    self.assertEqual(line.there(each).last(), (len(found), found))

    def test_each_day_of_a_history(self):
        line = thirds().split(4, 33, [30, 0, 30, 15]).join(6, 3, 36).join(1, 5, 38).join(8, 7, 41)
        self.assertEqual([answer[0] for answer in line.ask()], [0, 1, 3, 5, 7, 8, 9])
        self.check_days(line, [(0, []), (10, [0]), (20, [1, 2]), (30, [1, 3, 4]), (33, [1, 3, 5, 6]), (36, [1, 5, 7]),
                               (38, [7, 8]), (41, [9])])
        self.assertEqual(line.there(1000000).there(1000001).there(MOST).last(3), [(1, [9])] * 3)

    def test_before_the_opening_none_is(self):
        line = Line().open(7, 10).there(0).there(9).there(10)
        self.assertEqual(line.last(3), [(0, []), (0, []), (1, [0])])

    def test_a_parcel_that_came_and_went_on_one_day(self):
        line = halves().split(1, 20, [10, 0, 10, 30]).join(3, 4, 20)
        self.check_days(line, [(9, []), (10, [0]), (20, [2, 5])])

    def test_all_on_the_day_of_the_opening(self):
        line = Line().open(7, 10).split(0, 10, UPWARDS).join(1, 2, 10)
        self.check_days(line, [(8, []), (10, [3])])

    def test_gifts_leave_the_parcels(self):
        line = halves().give(1, 25, 7, 8, 1, 1).give(2, 26, 7, 8, 1, 2)
        self.check_days(line, [(9, []), (10, [0]), (20, [1, 2])])

    def test_an_act_taken_back(self):
        self.check_days(thirds().join(3, 4, 40).undo().undo(), [(9, []), (10, [0]), (20, [1, 2])])

    def test_another_act_in_its_place(self):
        line = thirds().undo().split(1, 22, [10, 0, 10, 30])
        self.check_days(line, [(9, []), (10, [0]), (20, [1, 2]), (22, [2, 3, 4])])


class TestExample(unittest.TestCase):
    def test_the_rectangle_split_upwards(self):
        line = Line().open(7, 10, RECTANGLE).split(0, 10, UPWARDS).at(20, 10, 10).at(19, 10, 10).at(21, 10, 10)
        self.assertEqual(line.last(4), [(1, [1200, 1200]), (0, [1, 2]), (1, [1]), (1, [2])])


if __name__ == "__main__":
    unittest.main()
