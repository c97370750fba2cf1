"""The call undo: after each kind of act all is as it was before it."""

import unittest

from tests.lines import RECTANGLE, Line

UPWARDS = [20, 0, 20, 30]


def started():
    """Two halves, the left one a half of 7's and a half of 8's; three acts, the last on day 13."""
    return Line().open(7, 10).split(0, 11, UPWARDS).give(1, 12, 7, 8, 1, 2).give(2, 13, 7, 8, 1, 2)


def probed(line):
    """What each call answers next, each taken back again if it was done."""
    calls = [(2, 1, 13, 4, 10, 0, 10, 30), (2, 1, 12, 4, 10, 0, 10, 30), (2, 2, 13, 4, 30, 0, 30, 30),
             (2, 0, 13, 4, 20, 0, 20, 30), (2, 3, 13, 4, 10, 0, 10, 30),
             (3, 1, 2, 13), (3, 1, 2, 12), (4, 1, 13, 7, 9, 1, 2), (4, 1, 13, 8, 9, 1, 2), (4, 1, 13, 7, 9, 51, 100),
             (4, 2, 13, 7, 9, 1, 2), (4, 2, 13, 8, 9, 1, 2), (4, 3, 13, 7, 9, 1, 2), (4, 1, 12, 7, 9, 1, 2)]
    found = []
    for call in calls:
        found.append(line.add(*call).last())
        if found[-1][0] >= 0:
            line.undo()
    return found + line.parcels(6).last(6)


class TestUndo(unittest.TestCase):
    def test_how_many_acts_are_left(self):
        line = started().undo().undo().undo().undo().undo()
        self.assertEqual(line.last(5), [(2, []), (1, []), (0, []), (-5, []), (-5, [])])

    def test_none(self):
        self.assertEqual(Line().open().undo().last(), (-5, []))

    def test_each_kind_of_act(self):
        plain = probed(started())
        self.assertEqual([answer[0] for answer in plain[:14]], [3, -1, 3, -4, -4, 3, -1, 0, 0, -5, 0, 0, -4, -1])
        for act in ((2, 1, 20, 4, 10, 0, 10, 30), (2, 2, 20, 4, 20, 15, 40, 15), (3, 1, 2, 20), (3, 2, 1, 20),
                    (4, 1, 20, 7, 8, 1, 2), (4, 2, 20, 8, 7, 1, 10), (4, 1, 20, 7, 900, 1, 3), (4, 1, 13, 7, 8, 1, 9)):
            with self.subTest(act=act):
                line = started().add(*act).undo()
                self.assertEqual(line.last(), (3, []))
                self.assertGreaterEqual(line.last(2)[0][0], 0)
                self.assertEqual(probed(line), plain)

    def test_several_acts(self):
        plain = probed(started())
        line = started().split(1, 20, [10, 0, 10, 30]).give(3, 21, 7, 8, 1, 4).give(3, 21, 8, 7, 1, 4)
        line.join(3, 4, 22).join(2, 5, 23).give(6, 24, 8, 1, 1, 2)
        self.assertEqual([answer[0] for answer in line.last(6)], [3, 0, 0, 5, 6, 0])
        for k in range(6):
            line.undo()
        self.assertEqual([answer[0] for answer in line.last(6)], [8, 7, 6, 5, 4, 3])
        self.assertEqual(probed(line), plain)

    def test_numbers_are_given_out_anew(self):
        line = started().split(1, 13, [10, 0, 10, 30]).undo().split(2, 13, [30, 0, 30, 30]).parcel(3).parcel(5)
        self.assertEqual(line.last(3), [(3, [600, 600]), (0, [-1, 13, 600, 1, 2, 20, 0, 30, 0, 30, 30, 20, 30]),
                                        (-4, [])])

    def test_the_last_day_goes_back_too(self):
        line = Line().open(7, 10).give(0, 50, 7, 8, 1, 2).undo().give(0, 9, 7, 8, 1, 2).give(0, 10, 7, 8, 1, 2)
        self.assertEqual(line.last(3), [(0, []), (-1, []), (0, [1, 2])])
        line = Line().open(7, 10).split(0, 20, UPWARDS).join(1, 2, 30).undo()
        line.give(1, 19, 7, 8, 1, 2).give(1, 20, 7, 8, 1, 2)
        self.assertEqual(line.last(3), [(1, []), (-1, []), (0, [1, 2])])

    def test_a_gift_on_the_day_of_another_one(self):
        line = Line().open(7, 10).give(0, 11, 7, 8, 1, 2).give(0, 11, 7, 8, 1, 2).undo().give(0, 11, 7, 9, 1, 2)
        self.assertEqual(line.last(3), [(0, [0, 1]), (1, []), (0, [0, 1])])

    def test_after_a_new_open(self):
        line = started().open(7, 30).undo().give(0, 30, 7, 8, 1, 1).undo().undo().parcels(2)
        self.assertEqual(line.last(7), [
            (0, [2400]), (-5, []), (0, [0, 1]), (0, []), (-5, []), (0, [-1, 30, 2400, 0] + RECTANGLE), (-4, [])])

    def test_after_a_refused_open(self):
        self.assertEqual(started().open(1001).undo().last(2), [(-1, []), (2, [])])

    def test_refused_acts_are_not_counted(self):
        line = started().split(1, 5, UPWARDS).join(1, 1, 20).give(1, 20, 1, 2, 1, 2).undo()
        self.assertEqual(line.last(4), [(-1, []), (-1, []), (-5, []), (2, [])])


class TestParcel(unittest.TestCase):
    def test_there_still(self):
        self.assertEqual(Line().open(7, 10).parcel(0).last(), (0, [-1, 10, 2400, 0] + RECTANGLE))

    def test_gone(self):
        line = started().parcel(0)
        self.assertEqual(line.last(), (0, [11, 10, 2400, 0] + RECTANGLE))

    def test_came_out_of_one(self):
        self.assertEqual(started().parcel(2).last(), (0, [-1, 11, 1200, 1, 0, 20, 0, 40, 0, 40, 30, 20, 30]))

    def test_came_out_of_two(self):
        line = started().join(2, 1, 14).parcel(3).parcel(1)
        self.assertEqual(line.last(2), [(0, [-1, 14, 2400, 2, 1, 2] + RECTANGLE),
                                        (0, [14, 11, 1200, 1, 0, 0, 0, 20, 0, 20, 30, 0, 30])])

    def test_on_day_0(self):
        line = Line().open(7, 0).split(0, 0, UPWARDS).parcel(0)
        self.assertEqual(line.last(), (0, [0, 0, 2400, 0] + RECTANGLE))

    def test_none(self):
        self.assertEqual(started().parcel(3).parcel(4294967295).last(2), [(-4, []), (-4, [])])

    def test_asking_changes_nothing(self):
        line = started().parcels(5).parcels(5)
        self.assertEqual(line.last(10)[:5], line.last(5))


if __name__ == "__main__":
    unittest.main()
