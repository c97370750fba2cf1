"""The call split, ways through a ring, and the two rings that a way makes."""

import unittest

from tests.lines import RECTANGLE, Line, strips, told_parcel
from tests.test_open import comb

# A hall open to the above: its inner points are (10, 10), (30, 10) at the notch's ground.
NOTCHED = [0, 0, 40, 0, 40, 30, 30, 30, 30, 10, 10, 10, 10, 30, 0, 30]


def parts(way, ring=RECTANGLE):
    """The rings of the left and the right part, or the refusal's number."""
    found = Line().open(ring=ring).split(0, 10, way).parcel(1).parcel(2).last(3)
    if found[0][0] < 0:
        return found[0][0]
    left, right = told_parcel(found[1][1]), told_parcel(found[2][1])
    if found[0] != (1, [left["area"], right["area"]]):
        raise AssertionError(f"the areas aren't those of the parts: {found}")
    return (left["ring"], right["ring"])


class TestSplit(unittest.TestCase):
    def test_the_documents_example(self):
        line = Line().open().split(0, 10, [20, 0, 20, 30]).parcels(3)
        self.assertEqual(line.last(4), [
            (1, [1200, 1200]),
            (0, [10, 10, 2400, 0] + RECTANGLE),
            (0, [-1, 10, 1200, 1, 0, 0, 0, 20, 0, 20, 30, 0, 30]),
            (0, [-1, 10, 1200, 1, 0, 20, 0, 40, 0, 40, 30, 20, 30])])

    def test_the_left_part_comes_first(self):
        self.assertEqual(parts([10, 0, 10, 30]), ([0, 0, 10, 0, 10, 30, 0, 30], [10, 0, 40, 0, 40, 30, 10, 30]))
        self.assertEqual(parts([10, 30, 10, 0]), ([10, 0, 40, 0, 40, 30, 10, 30], [0, 0, 10, 0, 10, 30, 0, 30]))
        self.assertEqual(parts([0, 10, 40, 10]), ([0, 10, 40, 10, 40, 30, 0, 30], [0, 0, 40, 0, 40, 10, 0, 10]))
        self.assertEqual(parts([40, 10, 0, 10]), ([0, 0, 40, 0, 40, 10, 0, 10], [0, 10, 40, 10, 40, 30, 0, 30]))

    def test_parts_of_parts(self):
        line = Line().open().split(0, 11, [20, 0, 20, 30]).split(2, 12, [20, 10, 40, 20]).split(1, 15, [0, 0, 20, 30])
        line.parcels(7)
        found = line.last(8)
        self.assertEqual(found[0], (5, [600, 600]))
        told = [told_parcel(answer[1]) for answer in found[1:]]
        self.assertEqual([one["gone"] for one in told], [11, 15, 12, -1, -1, -1, -1])
        self.assertEqual([one["since"] for one in told], [10, 11, 11, 12, 12, 15, 15])
        self.assertEqual([one["came"] for one in told], [[], [0], [0], [2], [2], [1], [1]])
        self.assertEqual(told[3]["ring"], [20, 10, 40, 20, 40, 30, 20, 30])
        self.assertEqual(told[4]["ring"], [20, 0, 40, 0, 40, 20, 20, 10])

    def test_both_parts_have_the_shares(self):
        line = Line().open(7).give(0, 10, 7, 8, 1, 3).split(0, 10, [20, 0, 20, 30])
        line.give(1, 10, 7, 9, 2, 3).give(2, 10, 8, 9, 1, 3).give(2, 10, 7, 9, 2, 3).give(1, 10, 8, 9, 1, 3)
        self.assertEqual(line.last(4), [(0, [0, 1])] * 4)

    def test_a_split_on_the_day_on_which_it_came(self):
        line = Line().open(day=10).split(0, 10, [20, 0, 20, 30]).split(1, 10, [10, 0, 10, 30]).parcel(1)
        self.assertEqual(line.last(2), [(3, [600, 600]), (0, [10, 10, 1200, 1, 0, 0, 0, 20, 0, 20, 30, 0, 30])])


class TestWays(unittest.TestCase):
    def refused(self, way, ring=RECTANGLE):
        self.assertEqual(parts(way, ring), -3)

    def test_from_a_rings_point_to_a_rings_point(self):
        self.assertEqual(parts([0, 0, 40, 30]), ([0, 0, 40, 30, 0, 30], [0, 0, 40, 0, 40, 30]))
        self.assertEqual(parts([40, 0, 0, 30]), ([0, 0, 40, 0, 0, 30], [0, 30, 40, 0, 40, 30]))

    def test_from_a_rings_point_to_between_two(self):
        self.assertEqual(parts([0, 0, 40, 10]), ([0, 0, 40, 10, 40, 30, 0, 30], [0, 0, 40, 0, 40, 10]))
        self.assertEqual(parts([40, 10, 0, 0]), ([0, 0, 40, 0, 40, 10], [0, 0, 40, 10, 40, 30, 0, 30]))

    def test_between_two_points_of_one_edge(self):
        self.assertEqual(parts([10, 0, 10, 5, 20, 5, 20, 0]), (
            [0, 0, 10, 0, 10, 5, 20, 5, 20, 0, 40, 0, 40, 30, 0, 30], [10, 0, 20, 0, 20, 5, 10, 5]))
        self.assertEqual(parts([20, 0, 20, 5, 10, 5, 10, 0]), (
            [10, 0, 20, 0, 20, 5, 10, 5], [0, 0, 10, 0, 10, 5, 20, 5, 20, 0, 40, 0, 40, 30, 0, 30]))
        self.assertEqual(parts([30, 30, 20, 5, 10, 30]), (
            [0, 0, 40, 0, 40, 30, 30, 30, 20, 5, 10, 30, 0, 30], [10, 30, 20, 5, 30, 30]))

    def test_along_an_edge_drawn_longer(self):
        # The notch's corner is straight on for the part beside it, and is put right.
        self.assertEqual(parts([10, 10, 10, 0], NOTCHED), (
            [10, 0, 40, 0, 40, 30, 30, 30, 30, 10, 10, 10], [0, 0, 10, 0, 10, 30, 0, 30]))
        self.assertEqual(parts([10, 10, 0, 10], NOTCHED), (
            [0, 0, 40, 0, 40, 30, 30, 30, 30, 10, 0, 10], [0, 10, 10, 10, 10, 30, 0, 30]))

    def test_several_points(self):
        self.assertEqual(parts([20, 0, 25, 10, 15, 20, 20, 30]), (
            [0, 0, 20, 0, 25, 10, 15, 20, 20, 30, 0, 30], [15, 20, 25, 10, 20, 0, 40, 0, 40, 30, 20, 30]))

    def test_straight_on_at_a_ways_point(self):
        self.assertEqual(parts([20, 0, 20, 7, 20, 11, 20, 30]), parts([20, 0, 20, 30]))
        self.assertEqual(parts([0, 0, 4, 3, 40, 30]), parts([0, 0, 40, 30]))

    def test_ends_must_be_on_an_edge(self):
        self.refused([20, 1, 20, 30])
        self.refused([20, 0, 20, 29])
        self.refused([20, 0, 20, 31])
        self.refused([50, 0, 50, 30])
        self.refused([20, 10, 25, 10])
        self.refused([41, 31, 0, 0])

    def test_ends_must_be_two(self):
        self.refused([20, 0, 20, 0])
        self.refused([20, 0, 30, 10, 20, 10, 20, 0])
        self.refused([0, 0, 10, 10, 0, 0])

    def test_along_an_edge(self):
        self.refused([0, 0, 40, 0])
        self.refused([10, 0, 20, 0])
        self.refused([20, 0, 10, 0])
        self.refused([0, 0, 20, 0])
        self.refused([10, 0, 20, 0, 20, 30])
        self.refused([10, 0, 10, 30, 20, 30])
        self.refused([20, 0, 20, 10, 40, 10, 40, 20, 20, 20, 20, 30])
        # From beyond a ring's point along an edge and inwards.
        self.refused([5, 0, 5, 10, 30, 10, 30, 30], NOTCHED)
        self.refused([10, 0, 10, 30], NOTCHED)
        self.refused([10, 10, 30, 10], NOTCHED)

    def test_touching_an_edge_between_its_ends(self):
        self.refused([20, 0, 40, 10, 20, 30])
        self.refused([20, 0, 20, 0, 20, 30])
        self.refused([20, 0, 20, 30, 20, 30])
        self.refused([20, 0, 40, 30, 0, 10])
        # Past a ring's point that juts in, without coming out.
        self.refused([0, 10, 40, 10], NOTCHED)
        self.refused([0, 20, 20, 0], NOTCHED)
        self.refused([0, 11, 10, 10, 10, 0], NOTCHED)

    def test_leaving_the_ring(self):
        self.refused([0, 20, 40, 20], NOTCHED)
        self.refused([10, 20, 30, 20], NOTCHED)
        self.refused([10, 30, 30, 30], NOTCHED)
        self.refused([10, 30, 20, 11, 30, 30], NOTCHED)
        self.refused([20, 0, 50, 10, 20, 30])
        self.refused([0, 5, 20, 35, 40, 5])
        self.refused([40, 10, 50, 15, 40, 20])
        self.refused([0, 0, 20, 4294967295, 40, 0])

    def test_meeting_itself(self):
        # A loop, a point twice, a touch on its own stretch, straight back, back over the beginning.
        self.refused([20, 0, 20, 20, 30, 20, 30, 10, 0, 10])
        self.refused([20, 0, 20, 10, 30, 20, 10, 20, 20, 10, 40, 10])
        self.refused([20, 0, 20, 20, 30, 20, 20, 10, 10, 10, 0, 10])
        self.refused([20, 0, 20, 20, 20, 10, 0, 10])
        self.refused([20, 0, 20, 20, 20, 10, 20, 30])
        self.refused([20, 0, 20, 20, 30, 20, 30, 10, 20, 0, 0, 0])
        self.refused([20, 0, 20, 10, 20, 10, 20, 30])

    def test_too_short(self):
        self.refused([])
        self.refused([20, 0])

    def test_how_long(self):
        def zigzag(points):
            way = [(2 * k, 15 + k % 2) for k in range(points - 1)] + [(40, 15)]
            return [number for point in way for number in point]
        left, right = parts(zigzag(20))
        self.assertEqual((len(left), len(right)), (44, 44))
        self.assertEqual(len(zigzag(21)), 42)
        self.refused(zigzag(21))
        straight = [number for y in range(31) for number in (20, y)]
        self.assertEqual(parts(straight[:38] + [20, 30]), parts([20, 0, 20, 30]))
        self.refused(straight[:40] + [20, 30])
        self.refused(straight)

    def test_an_odd_number(self):
        self.refused([20])
        self.refused([20, 0, 20])
        self.refused([20, 0, 20, 30, 20])

    def test_slanting_ends_between_two_points(self):
        ring = [0, 0, 12, 6, 12, 18, 0, 12]
        self.assertEqual(parts([4, 2, 4, 14], ring), ([0, 0, 4, 2, 4, 14, 0, 12], [4, 2, 12, 6, 12, 18, 4, 14]))
        # Beside the slanting edge, not on it.
        self.refused([5, 2, 5, 14], ring)
        self.refused([4, 2, 4, 13], ring)

    def test_a_thin_strip_whose_middle_is_no_whole_point(self):
        ring = [0, 0, 1, 0, 1, 1, 0, 1]
        self.assertEqual(parts([0, 0, 1, 1], ring), ([0, 0, 1, 1, 0, 1], [0, 0, 1, 0, 1, 1]))

    def test_the_greatest_ring(self):
        most = 1000000
        ring = [0, 0, most, 0, most, most, 0, most]
        found = Line().open(ring=ring).split(0, 10, [0, 0, most, most]).last()
        self.assertEqual(found, (1, [most * most, most * most]))
        found = Line().open(ring=ring).split(0, 10, [0, 0, most, most - 1]).last()
        self.assertEqual(found, (1, [most * most + most, most * most - most]))


class TestRefusals(unittest.TestCase):
    WAY = [20, 0, 20, 30]

    def started(self):
        return Line().open(day=10).split(0, 12, self.WAY)

    def test_days(self):
        self.assertEqual(Line().open(day=10).split(0, 9, self.WAY).last(), (-1, []))
        self.assertEqual(Line().open(day=10).split(0, 1000000, self.WAY).last(), (1, [1200, 1200]))
        self.assertEqual(Line().open(day=10).split(0, 1000001, self.WAY).last(), (-1, []))
        self.assertEqual(self.started().split(1, 11, [10, 0, 10, 30]).last(), (-1, []))
        self.assertEqual(self.started().split(1, 12, [10, 0, 10, 30]).last(), (3, [600, 600]))

    def test_the_last_acts_day_is_that_of_a_gift_or_join_too(self):
        line = Line().open(day=10).give(0, 15, 7, 8, 1, 2).split(0, 14, self.WAY)
        self.assertEqual(line.last(), (-1, []))
        line = self.started().join(1, 2, 15).split(3, 14, self.WAY)
        self.assertEqual(line.last(), (-1, []))

    def test_no_such_parcel(self):
        self.assertEqual(self.started().split(3, 12, self.WAY).last(), (-4, []))
        self.assertEqual(self.started().split(0, 12, self.WAY).last(), (-4, []))
        self.assertEqual(self.started().split(0, 20, self.WAY).last(), (-4, []))

    def test_200_parcels(self):
        line = strips()
        found = line.ask()
        self.assertEqual(found[99][0], 197)
        # 199 parcels, so a split would make 201 and a join 200.
        line.split(198, 10, [150, 0, 150, 30])
        line.join(195, 197, 10)
        line.parcel(199).parcel(200)
        line.split(199, 10, [0, 0, 1, 1]).join(198, 199, 10).join(198, 199, 10)
        found = line.last(7)
        self.assertEqual(found[0], (-2, []))
        self.assertEqual(found[1], (199, [120]))
        self.assertEqual((found[2][0], found[3][0]), (0, -4))
        self.assertEqual([answer[0] for answer in found[4:]], [-2, -2, -2])

    def test_just_200_parcels_by_a_split(self):
        line = strips().undo().join(193, 195, 10).split(196, 10, [150, 0, 150, 30]).parcel(199)
        line.split(197, 10, [150, 0, 150, 30]).undo().undo().split(196, 10, [98, 10, 200, 10])
        self.assertEqual([answer[0] for answer in line.last(7)], [197, 198, 0, -2, 99, 98, 197])

    def test_an_act_taken_back_makes_room(self):
        line = strips().undo().split(196, 10, [160, 0, 160, 30]).split(198, 10, [170, 0, 170, 30])
        self.assertEqual([answer[0] for answer in line.last(3)], [98, 197, -2])

    def test_a_gift_is_not_refused_for_parcels(self):
        line = strips().join(195, 197, 10).give(198, 10, 7, 8, 1, 4)
        self.assertEqual(line.last(), (0, [3, 4]))

    def test_order(self):
        wrong_way = [20, 0, 20]
        self.assertEqual(Line().open(day=10).split(5, 9, wrong_way).last(), (-1, []))
        self.assertEqual(Line().open(day=10).split(5, 10, wrong_way).last(), (-4, []))
        self.assertEqual(strips().split(198, 9, wrong_way).last(), (-1, []))
        self.assertEqual(strips().split(0, 10, wrong_way).last(), (-4, []))
        self.assertEqual(strips().split(198, 10, wrong_way).last(), (-2, []))
        self.assertEqual(Line().open(day=10).split(0, 10, wrong_way).last(), (-3, []))

    def test_more_than_64_points(self):
        ring = comb(64)
        # A corner cut off by a straight way: one point more on the great part.
        line = Line().open(ring=ring).split(0, 10, [0, 2, 2, 0]).parcels(2)
        self.assertEqual([answer[0] for answer in line.last(3)], [-2, 0, -4])
        self.assertEqual(Line().open(ring=comb(63)).split(0, 10, [0, 2, 2, 0]).last()[0], 1)
        # The great part on the other side of the way.
        self.assertEqual(Line().open(ring=ring).split(0, 10, [2, 0, 0, 2]).last(), (-2, []))
        # Straight points are taken out before points are counted.
        self.assertEqual(Line().open(ring=comb(63)).split(0, 10, [0, 3, 1, 2, 2, 1, 3, 0]).last()[0], 1)
        # No way is told before too many points.
        self.assertEqual(Line().open(ring=ring).split(0, 10, [0, 2, 2, 1]).last(), (-3, []))

    def test_a_refused_one_changes_nothing(self):
        wrong = [(1, 11, [10, 0, 10, 30]), (0, 12, self.WAY), (9, 12, self.WAY), (1, 12, [10, 0, 10, 29]),
                 (1, 1000001, [10, 0, 10, 30]), (1, 99, [10, 0, 10])]
        for call in wrong:
            with self.subTest(call=call):
                plain = self.started().parcels(4).split(1, 12, [10, 0, 10, 30]).undo().undo().undo().ask()
                line = self.started().split(*call).parcels(4).split(1, 12, [10, 0, 10, 30]).undo().undo().undo()
                found = line.ask()
                self.assertLess(found[2][0], 0)
                self.assertEqual(found[:2] + found[3:], plain)


if __name__ == "__main__":
    unittest.main()
