"""The call acts: how many acts there are, the day of the last, how many parcels there are and were."""

import unittest

from tests.lines import Line

UPWARDS = [20, 0, 20, 30]


class TestActs(unittest.TestCase):
    def check(self, line, number, day, parcels):
        self.assertEqual(line.acts().last(), (number, [day, parcels]))

    def test_none_yet(self):
        self.check(Line().open(7, 10), 0, 10, 1)
        self.check(Line().open(7, 0), 0, 0, 1)
        self.check(Line().open(7, 1000000), 0, 1000000, 1)

    def test_after_each_kind_of_act(self):
        line = Line().open(7, 10)
        self.check(line.split(0, 12, UPWARDS), 1, 12, 3)
        self.check(line.give(1, 14, 7, 8, 1, 2), 2, 14, 3)
        self.check(line.give(1, 14, 8, 7, 1, 2), 3, 14, 3)
        self.check(line.join(1, 2, 1000000), 4, 1000000, 4)

    def test_parcels_that_are_gone_count(self):
        line = Line().open(7, 10).split(0, 10, UPWARDS).join(1, 2, 10).split(3, 10, UPWARDS).join(4, 5, 10)
        self.check(line, 4, 10, 7)
        self.assertEqual(line.there(10).last(), (1, [6]))

    def test_an_act_on_the_day_of_the_opening(self):
        self.check(Line().open(7, 10).give(0, 10, 7, 8, 1, 1), 1, 10, 1)

    def test_after_refused_calls(self):
        line = Line().open(7, 10).split(0, 12, UPWARDS)
        for call in ((2, 1, 11, 4, 10, 0, 10, 30), (2, 0, 20, 4, 20, 0, 20, 30), (2, 1, 20, 4, 10, 1, 10, 30),
                     (3, 1, 1, 20), (3, 0, 1, 20), (4, 1, 20, 8, 7, 1, 2), (4, 1, 1000001, 7, 8, 1, 2), (6, 3),
                     (1, 1001, 20, 8, 0, 0, 40, 0, 40, 30, 0, 30), (9, 3, 12), (9, 0, 12), (11, 0, 3)):
            with self.subTest(call=call):
                self.assertLess(line.add(*call).last()[0], 0)
                self.check(line, 1, 12, 3)

    def test_after_questions(self):
        line = Line().open(7, 10).split(0, 12, UPWARDS).parcel(0).at(5, 5, 50).there(50).whose(1, 50).holds(7, 50)
        self.check(line.beside(1, 2).acts(), 1, 12, 3)

    def test_after_undo(self):
        line = Line().open(7, 10).split(0, 12, UPWARDS).give(1, 14, 7, 8, 1, 2).give(2, 15, 7, 8, 1, 2).join(1, 2, 16)
        self.check(line, 4, 16, 4)
        self.check(line.undo(), 3, 15, 3)
        self.check(line.undo(), 2, 14, 3)
        self.check(line.undo(), 1, 12, 3)
        self.check(line.undo(), 0, 10, 1)
        self.check(line.undo(), 0, 10, 1)
        self.check(line.give(0, 11, 7, 8, 1, 2), 1, 11, 1)

    def test_after_a_new_open(self):
        line = Line().open(7, 10).split(0, 12, UPWARDS).open(7, 5)
        self.check(line, 0, 5, 1)
        self.check(line.give(0, 6, 7, 8, 1, 2), 1, 6, 1)

    def test_after_a_refused_open(self):
        self.check(Line().open(7, 10).split(0, 12, UPWARDS).open(7, 5, [1]), 1, 12, 3)

    def test_many(self):
        line = Line().open(7, 10)
        for k in range(398):
            line.give(0, 10 + k, 7 + k % 2, 8 - k % 2, 1, 1)
        self.check(line, 398, 407, 1)


if __name__ == "__main__":
    unittest.main()
