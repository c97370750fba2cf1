"""The calls whose and holds: whose a parcel was on a day, and what an owner held."""

import unittest
from fractions import Fraction

from tests.lines import Line

UPWARDS = [20, 0, 20, 30]
MOST = 4294967295
GREATEST = [0, 0, 1000000, 0, 1000000, 1000000, 0, 1000000]


def halves():
    """The rectangle, 7's since day 10, on day 20 split in 1 to the left of x 20 and 2 to the right."""
    return Line().open(7, 10).split(0, 20, UPWARDS)


def gifts():
    """Of parcel 0 on day 12 a half goes to 8; on day 14 of 7's half a third to 5, and of it a twelfth to 900."""
    return Line().open(7, 10).give(0, 12, 7, 8, 1, 2).give(0, 14, 7, 5, 1, 3).give(0, 14, 5, 900, 1, 12)


class TestWhose(unittest.TestCase):
    def check_days(self, line, p, days):
        for day, expected in days:
            with self.subTest(p=p, day=day):
                self.assertEqual(line.whose(p, day).last(), expected)

    def test_all_of_it_is_the_openers(self):
        self.check_days(Line().open(0, 10), 0, [(10, (1, [0, 1, 1])), (50, (1, [0, 1, 1]))])
        self.check_days(Line().open(1000, 10), 0, [(10, (1, [1000, 1, 1]))])

    def test_gifts_on_different_days_and_on_one_day(self):
        last = (4, [5, 1, 4, 7, 1, 6, 8, 1, 2, 900, 1, 12])
        self.check_days(gifts(), 0, [
            (0, (-5, [])), (9, (-5, [])), (10, (1, [7, 1, 1])), (11, (1, [7, 1, 1])), (12, (2, [7, 1, 2, 8, 1, 2])),
            (13, (2, [7, 1, 2, 8, 1, 2])), (14, last), (15, last), (1000000, last), (1000001, last), (MOST, last)])

    def test_gifts_on_the_day_of_the_opening(self):
        line = Line().open(7, 10).give(0, 10, 7, 8, 1, 2).give(0, 10, 8, 9, 1, 2)
        self.check_days(line, 0, [(9, (-5, [])), (10, (2, [7, 1, 2, 9, 1, 2])), (11, (2, [7, 1, 2, 9, 1, 2]))])

    def test_owners_rise_in_whatever_order_they_came(self):
        line = Line().open(500, 10)
        for owner in (1000, 0, 999, 3, 20, 100):
            line.give(0, 10, 500, owner, 1, 7)
        expected = [number for owner in (0, 3, 20, 100, 500, 999, 1000) for number in (owner, 1, 7)]
        self.assertEqual(line.whose(0, 10).last(), (7, expected))

    def test_who_has_nothing_left_is_no_owner(self):
        line = Line().open(7, 10).give(0, 11, 7, 8, 1, 1).give(0, 12, 8, 9, 1, 2).give(0, 13, 8, 7, 1, 2)
        self.check_days(line, 0, [(10, (1, [7, 1, 1])), (11, (1, [8, 1, 1])), (12, (2, [8, 1, 2, 9, 1, 2])),
                                  (13, (2, [7, 1, 2, 9, 1, 2]))])

    def test_shares_are_in_lowest_terms(self):
        line = Line().open(7, 10).give(0, 10, 7, 8, 250, 1000).give(0, 10, 7, 8, 3, 12).whose(0, 10)
        self.assertEqual(line.last(), (2, [7, 1, 2, 8, 1, 2]))

    def test_parts_have_the_shares_as_they_were(self):
        line = gifts().split(0, 16, UPWARDS).give(1, 18, 8, 7, 1, 2)
        shares = (4, [5, 1, 4, 7, 1, 6, 8, 1, 2, 900, 1, 12])
        self.check_days(line, 0, [(12, (2, [7, 1, 2, 8, 1, 2])), (14, shares), (15, shares), (16, (-5, [])),
                                  (18, (-5, []))])
        self.check_days(line, 1, [(15, (-5, [])), (16, shares), (17, shares), (18, (3, [5, 1, 4, 7, 2, 3, 900, 1, 12]))])
        self.check_days(line, 2, [(15, (-5, [])), (16, shares), (18, shares), (99, shares)])

    def test_a_joined_parcel_has_the_shares_as_they_were(self):
        line = halves().give(1, 22, 7, 8, 1, 2).give(2, 23, 7, 8, 1, 4).give(2, 24, 7, 8, 1, 4).join(1, 2, 26)
        line.give(3, 28, 8, 6, 1, 2)
        both = (2, [7, 1, 2, 8, 1, 2])
        self.check_days(line, 1, [(19, (-5, [])), (20, (1, [7, 1, 1])), (21, (1, [7, 1, 1])), (22, both), (25, both),
                                  (26, (-5, []))])
        self.check_days(line, 2, [(22, (1, [7, 1, 1])), (23, (2, [7, 3, 4, 8, 1, 4])), (24, both), (26, (-5, []))])
        self.check_days(line, 3, [(25, (-5, [])), (26, both), (27, both), (28, (2, [6, 1, 2, 7, 1, 2]))])

    def test_a_gift_and_a_split_on_one_day(self):
        line = Line().open(7, 10).give(0, 15, 7, 8, 1, 3).split(0, 15, UPWARDS).give(2, 15, 7, 9, 1, 3)
        self.check_days(line, 0, [(14, (1, [7, 1, 1])), (15, (-5, []))])
        self.check_days(line, 1, [(14, (-5, [])), (15, (2, [7, 2, 3, 8, 1, 3]))])
        self.check_days(line, 2, [(14, (-5, [])), (15, (3, [7, 1, 3, 8, 1, 3, 9, 1, 3]))])

    def test_came_and_went_on_one_day(self):
        line = halves().join(1, 2, 20)
        for p in (1, 2):
            self.check_days(line, p, [(19, (-5, [])), (20, (-5, [])), (21, (-5, [])), (MOST, (-5, []))])
        self.check_days(line, 0, [(19, (1, [7, 1, 1])), (20, (-5, []))])
        self.check_days(line, 3, [(19, (-5, [])), (20, (1, [7, 1, 1]))])

    def test_no_such_parcel(self):
        line = halves()
        self.check_days(line, 3, [(0, (-4, [])), (20, (-4, [])), (MOST, (-4, []))])
        self.check_days(line, MOST, [(0, (-4, [])), (20, (-4, []))])

    def test_a_parcel_taken_back_is_none(self):
        self.check_days(halves().undo(), 1, [(20, (-4, []))])
        self.check_days(halves().undo(), 0, [(20, (1, [7, 1, 1]))])

    def test_a_gift_taken_back(self):
        self.check_days(gifts().undo(), 0, [(13, (2, [7, 1, 2, 8, 1, 2])), (14, (3, [5, 1, 3, 7, 1, 6, 8, 1, 2]))])
        self.check_days(gifts().undo().undo(), 0, [(14, (2, [7, 1, 2, 8, 1, 2]))])
        self.check_days(gifts().undo().undo().undo(), 0, [(14, (1, [7, 1, 1]))])

    def test_many_owners(self):
        line = Line().open(0, 10)
        for owner in range(1, 398):
            line.give(0, 10, 0, owner, 1, 1000)
        number, told = line.whose(0, 10).last()
        self.assertEqual((number, len(told)), (398, 3 * 398))
        self.assertEqual(told[:6], [0, 603, 1000, 1, 1, 1000])
        self.assertEqual(sum(Fraction(told[k + 1], told[k + 2]) for k in range(0, len(told), 3)), 1)


class TestHolds(unittest.TestCase):
    def test_all_of_the_district(self):
        self.assertEqual(Line().open(7, 10).holds(7, 10).last(), (1, [1200, 1]))
        self.assertEqual(Line().open(7, 10, GREATEST).holds(7, 10).last(), (1, [10 ** 12, 1]))

    def test_none(self):
        line = Line().open(7, 10).holds(8, 10).holds(0, 10).holds(1001, 10).holds(MOST, 10).holds(7, 9).holds(7, 0)
        self.assertEqual(line.last(6), [(0, [0, 1])] * 6)

    def test_one_and_several_parcels(self):
        line = halves().split(2, 20, [20, 15, 40, 15]).give(1, 20, 7, 8, 1, 3).give(4, 20, 7, 8, 1, 2)
        line.give(3, 20, 7, 9, 1, 1)
        line.holds(7, 20).holds(8, 20).holds(9, 20).holds(10, 20)
        # 600 is parcel 1, 300 are 3 and 4 each.
        self.assertEqual(line.last(4), [(2, [550, 1]), (2, [350, 1]), (1, [300, 1]), (0, [0, 1])])

    def test_an_area_that_is_not_whole(self):
        self.assertEqual(Line().open(7, 10, [0, 0, 1, 0, 0, 1]).holds(7, 10).last(), (1, [1, 2]))
        self.assertEqual(Line().open(7, 10, [0, 0, 7, 3, 2, 5]).holds(7, 10).last(), (1, [29, 2]))
        line = Line().open(7, 10, [0, 0, 7, 3, 2, 5]).give(0, 10, 7, 8, 3, 7).holds(7, 10).holds(8, 10)
        self.assertEqual(line.last(2), [(1, [58, 7]), (1, [87, 14])])
        self.assertEqual(Line().open(7, 10).give(0, 10, 7, 8, 1, 7).holds(8, 10).last(), (1, [1200, 7]))

    def test_halves_that_come_to_a_whole(self):
        line = Line().open(7, 10, [0, 0, 1, 0, 1, 1, 0, 1]).split(0, 10, [0, 0, 1, 1]).holds(7, 10)
        self.assertEqual(line.last(), (2, [1, 1]))

    def test_shares_of_different_lower_numbers(self):
        line = halves().give(1, 20, 7, 8, 1, 997).give(2, 20, 7, 8, 1, 991).holds(8, 20).holds(7, 20)
        held = Fraction(600, 997) + Fraction(600, 991)
        left = 1200 - held
        self.assertEqual(line.last(2), [(2, [held.numerator, held.denominator]), (2, [left.numerator, left.denominator])])

    def test_days_before_a_gift_and_behind_it(self):
        line = Line().open(7, 10).give(0, 15, 7, 8, 1, 4)
        for day, seven, eight in ((9, (0, [0, 1]), (0, [0, 1])), (10, (1, [1200, 1]), (0, [0, 1])),
                                  (14, (1, [1200, 1]), (0, [0, 1])), (15, (1, [900, 1]), (1, [300, 1])),
                                  (16, (1, [900, 1]), (1, [300, 1])), (1000001, (1, [900, 1]), (1, [300, 1])),
                                  (MOST, (1, [900, 1]), (1, [300, 1]))):
            with self.subTest(day=day):
                self.assertEqual(line.holds(7, day).holds(8, day).last(2), [seven, eight])

    def test_all_given_away(self):
        line = Line().open(7, 10).give(0, 15, 7, 8, 1, 1).holds(7, 14).holds(7, 15).holds(8, 15)
        self.assertEqual(line.last(3), [(1, [1200, 1]), (0, [0, 1]), (1, [1200, 1])])

    def test_parcels_that_are_gone_do_not_count(self):
        line = halves().join(1, 2, 30).holds(7, 19).holds(7, 20).holds(7, 29).holds(7, 30)
        self.assertEqual(line.last(4), [(1, [1200, 1]), (2, [1200, 1]), (2, [1200, 1]), (1, [1200, 1])])
        line = halves().join(1, 2, 20).holds(7, 19).holds(7, 20)
        self.assertEqual(line.last(2), [(1, [1200, 1]), (1, [1200, 1])])

    def test_all_that_is_held_is_the_land(self):
        line = Line().open(1, 10, [0, 0, 41, 0, 40, 30, 0, 31]).give(0, 11, 1, 2, 2, 7)
        line.split(0, 12, [20, 0, 20, 10, 0, 10]).give(1, 13, 2, 3, 1, 9).give(2, 14, 1, 4, 1, 11)
        line.split(1, 16, [0, 5, 20, 5]).give(3, 16, 3, 5, 1, 13).give(2, 18, 4, 6, 1, 11)
        self.assertEqual([answer[0] for answer in line.ask()], [0, 0, 1, 0, 0, 3, 0, 0])
        whole = Fraction(line.ask()[0][1][0], 2)
        for day in list(range(10, 20)) + [1000000, 1000001, MOST]:
            with self.subTest(day=day):
                for owner in range(7):
                    line.holds(owner, day)
                self.assertEqual(sum(Fraction(*answer[1]) for answer in line.last(7)), whole)


if __name__ == "__main__":
    unittest.main()
