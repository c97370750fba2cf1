"""The call give."""

import unittest

from tests.lines import Line


def shares_of(line, p, day, owners):
    """What each of these owners has of a parcel, found by asking for gifts of some share and taking them back.

    Only shares of twelfths are looked for.
    """
    found = {}
    for owner in owners:
        other = 999
        for n in range(12, 0, -1):
            number = line.give(p, day, owner, other, n, 12).last()[0]
            if number == 0:
                found[owner] = n
                line.undo()
                break
    return found


class TestGive(unittest.TestCase):
    def test_what_is_left_is_answered(self):
        self.assertEqual(Line().open(7).give(0, 10, 7, 8, 1, 3).last(), (0, [2, 3]))
        self.assertEqual(Line().open(0).give(0, 10, 0, 1000, 999, 1000).last(), (0, [1, 1000]))

    def test_it_is_in_lowest_terms(self):
        line = Line().open(7).give(0, 10, 7, 8, 2, 8).give(0, 10, 7, 8, 3, 12).give(0, 10, 7, 9, 100, 1000)
        self.assertEqual(line.last(3), [(0, [3, 4]), (0, [1, 2]), (0, [2, 5])])

    def test_all_of_a_share(self):
        line = Line().open(7).give(0, 10, 7, 8, 1, 1).give(0, 10, 7, 8, 1, 1000)
        self.assertEqual(line.last(2), [(0, [0, 1]), (-5, [])])
        line = Line().open(7).give(0, 10, 7, 8, 1, 3).give(0, 10, 8, 9, 3, 9).give(0, 10, 8, 9, 1, 1000)
        self.assertEqual(line.last(2), [(0, [0, 1]), (-5, [])])

    def test_it_goes_from_the_one_to_the_other(self):
        line = Line().open(7).give(0, 10, 7, 8, 5, 12).give(0, 10, 8, 9, 1, 6).give(0, 10, 9, 7, 1, 12)
        self.assertEqual(shares_of(line, 0, 10, [6, 7, 8, 9, 10]), {7: 8, 8: 3, 9: 1})

    def test_shares_are_1_together(self):
        line = Line().open(7)
        for owner, n, d in ((8, 1, 7), (9, 2, 9), (10, 3, 11), (11, 1, 13)):
            line.give(0, 10, 7, owner, n, d)
        left = line.last()[1]
        # All comes together with one owner again, who then has just the whole.
        for owner, n, d in ((8, 1, 7), (9, 2, 9), (10, 3, 11), (11, 1, 13)):
            line.give(0, 10, owner, 7, n, d)
        self.assertEqual(left, [2570, 9009])
        self.assertEqual(line.last(4), [(0, [0, 1])] * 4)
        self.assertEqual(line.give(0, 10, 7, 1, 1, 1).last(), (0, [0, 1]))

    def test_great_lower_numbers(self):
        line = Line().open(0)
        lowers = [997, 991, 983, 977, 971, 967, 953, 947, 941, 937, 929, 919, 911, 907]
        for lower in lowers:
            line.give(0, 10, 0, 1, 1, lower)
        number, left = line.last()
        product = 1
        for lower in lowers:
            product *= lower
        self.assertEqual(left, [product - sum(product // lower for lower in lowers), product])
        for lower in lowers:
            line.give(0, 10, 1, 0, 1, lower)
        self.assertEqual(line.last(), (0, [0, 1]))
        self.assertEqual(line.give(0, 10, 0, 1, 1, 1).last(), (0, [0, 1]))

    def test_one_parcel_alone(self):
        line = Line().open(7).split(0, 10, [20, 0, 20, 30]).give(1, 10, 7, 8, 1, 2).give(2, 10, 7, 9, 1, 1)
        self.assertEqual(line.last(), (0, [0, 1]))
        line.give(1, 10, 7, 9, 1, 2)
        self.assertEqual(line.last(), (0, [0, 1]))

    def test_less_there_than_asked(self):
        line = Line().open(7).give(0, 10, 8, 7, 1, 1000).give(0, 10, 7, 8, 1, 3)
        line.give(0, 10, 8, 9, 334, 1000).give(0, 10, 8, 9, 333, 1000)
        self.assertEqual(line.last(4), [(-5, []), (0, [2, 3]), (-5, []), (0, [1, 3000])])


class TestRefusals(unittest.TestCase):
    def asked(self, day=10, p=0, a=7, b=8, n=1, d=2):
        return Line().open(7, 10).give(p, day, a, b, n, d).last()[0]

    def test_owners(self):
        self.assertEqual(self.asked(b=1000), 0)
        self.assertEqual(self.asked(b=1001), -1)
        self.assertEqual(self.asked(a=1000), -5)
        self.assertEqual(self.asked(a=1001), -1)
        self.assertEqual(self.asked(b=0), 0)
        self.assertEqual(self.asked(b=7), -1)
        self.assertEqual(self.asked(a=8), -1)

    def test_parts(self):
        self.assertEqual(self.asked(n=0), -1)
        self.assertEqual(self.asked(n=0, d=0), -1)
        self.assertEqual(self.asked(n=1, d=0), -1)
        self.assertEqual(self.asked(n=2, d=2), 0)
        self.assertEqual(self.asked(n=3, d=2), -1)
        self.assertEqual(self.asked(n=1, d=1000), 0)
        self.assertEqual(self.asked(n=1000, d=1000), 0)
        self.assertEqual(self.asked(n=1, d=1001), -1)
        # In lowest terms it would be fit.
        self.assertEqual(self.asked(n=2, d=2000), -1)

    def test_days(self):
        self.assertEqual(self.asked(day=9), -1)
        self.assertEqual(self.asked(day=10), 0)
        self.assertEqual(self.asked(day=1000000), 0)
        self.assertEqual(self.asked(day=1000001), -1)
        line = Line().open(7, 10).give(0, 20, 7, 8, 1, 4).give(0, 19, 7, 8, 1, 4).give(0, 20, 7, 8, 1, 4)
        self.assertEqual(line.last(2), [(-1, []), (0, [1, 2])])

    def test_parcels(self):
        self.assertEqual(self.asked(p=1), -4)
        line = Line().open(7, 10).split(0, 10, [20, 0, 20, 30]).give(0, 10, 7, 8, 1, 2)
        self.assertEqual(line.last(), (-4, []))
        line.join(1, 2, 10).give(2, 10, 7, 8, 1, 2).give(3, 10, 7, 8, 1, 2)
        self.assertEqual(line.last(2), [(-4, []), (0, [1, 2])])

    def test_order(self):
        self.assertEqual(self.asked(p=5, a=1001), -1)
        self.assertEqual(self.asked(p=5, day=9), -1)
        self.assertEqual(self.asked(p=5, a=9), -4)
        self.assertEqual(self.asked(a=9), -5)
        self.assertEqual(self.asked(a=9, day=9), -1)

    def test_a_refused_one_changes_nothing(self):
        wrong = [(0, 20, 7, 1001, 1, 2), (0, 20, 7, 8, 3, 2), (0, 20, 7, 7, 1, 2), (0, 9, 7, 8, 1, 2),
                 (0, 1000001, 7, 8, 1, 2), (3, 20, 7, 8, 1, 2), (0, 20, 7, 8, 3, 4), (0, 20, 9, 7, 1, 2)]
        for call in wrong:
            with self.subTest(call=call):
                line = Line().open(7, 10).give(0, 11, 7, 8, 1, 3).give(*call)
                line.give(0, 11, 7, 9, 2, 3).give(0, 11, 8, 9, 1, 3).undo().undo().undo().undo()
                found = line.last(7)
                self.assertLess(found[0][0], 0)
                self.assertEqual(found[1:], [(0, [0, 1]), (0, [0, 1]), (2, []), (1, []), (0, []), (-5, [])])


if __name__ == "__main__":
    unittest.main()
