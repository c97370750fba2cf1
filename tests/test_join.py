"""The call join, and which rings can be joined."""

import unittest

from tests.lines import RECTANGLE, Line, strips, told_parcel
from tests.test_split import NOTCHED

SQUARE = [0, 0, 30, 0, 30, 30, 0, 30]
LEFT_HALF = [0, 0, 15, 0, 15, 30, 0, 30]


def numbers_of(points):
    return [number for point in points for number in point]


def cut(ring, *ways):
    """A line that opens a ring and splits along ways, each through whichever parcel it's one of."""
    line = Line().open(ring=ring)
    for way in ways:
        size = line.size
        for p in range(size * 2):
            line.split(p, 10, way)
        done = [answer for answer in line.last(size * 2) if answer[0] >= 0]
        if len(done) != 1:
            raise AssertionError(f"{way} splits {len(done)} parcels")
    return line


def number_of(line, ring):
    """The number of the parcel that's there still and has this ring."""
    size = 1
    while line.parcel(size).last()[0] == 0:
        size += 1
    told = [told_parcel(answer[1]) for answer in line.parcels(size).last(size)]
    found = [p for p in range(size) if told[p]["ring"] == ring and told[p]["gone"] == -1]
    if len(found) != 1:
        raise AssertionError(f"{ring} isn't one of {told}")
    return found[0]


def joined(line, one, other):
    """The ring of two parcels joined, told by their rings; or the refusal's number."""
    p, q = number_of(line, one), number_of(line, other)
    number = line.join(p, q, 10).last()[0]
    if number < 0:
        if line.join(q, p, 10).last()[0] != number:
            raise AssertionError("it matters which one is named first")
        return number
    return told_parcel(line.parcel(number).last()[1])["ring"]


class TestJoin(unittest.TestCase):
    def halves(self):
        return Line().open(day=10).split(0, 12, [20, 0, 20, 30])

    def test_both_are_gone_and_one_comes(self):
        line = self.halves().join(1, 2, 14).parcels(5)
        self.assertEqual(line.last(6), [
            (3, [2400]),
            (0, [12, 10, 2400, 0] + RECTANGLE),
            (0, [14, 12, 1200, 1, 0, 0, 0, 20, 0, 20, 30, 0, 30]),
            (0, [14, 12, 1200, 1, 0, 20, 0, 40, 0, 40, 30, 20, 30]),
            (0, [-1, 14, 2400, 2, 1, 2] + RECTANGLE),
            (-4, [])])

    def test_the_less_number_is_told_first(self):
        line = self.halves().join(2, 1, 14).parcel(3)
        self.assertEqual(line.last(2), [(3, [2400]), (0, [-1, 14, 2400, 2, 1, 2] + RECTANGLE)])

    def test_it_has_their_shares(self):
        line = Line().open(day=10).give(0, 10, 7, 8, 1, 3).split(0, 12, [20, 0, 20, 30]).join(1, 2, 14)
        line.give(3, 14, 7, 9, 3, 4).give(3, 14, 8, 9, 2, 3).give(3, 14, 8, 9, 1, 3).give(3, 14, 7, 9, 2, 3)
        self.assertEqual(line.last(4), [(-5, []), (-5, []), (0, [0, 1]), (0, [0, 1])])

    def test_the_same_shares_come_by_in_another_order(self):
        line = self.halves()
        line.give(1, 12, 7, 8, 1, 2).give(1, 12, 7, 5, 1, 6)
        line.give(2, 12, 7, 5, 2, 12).give(2, 12, 7, 8, 1, 4).give(2, 12, 7, 8, 2, 8)
        self.assertEqual(line.join(1, 2, 12).last(), (3, [2400]))

    def test_parts_joined_again_are_the_same_ring(self):
        ways = [
            (RECTANGLE, [20, 0, 20, 30]), (RECTANGLE, [0, 0, 40, 30]), (RECTANGLE, [0, 0, 40, 10]),
            (RECTANGLE, [10, 0, 10, 5, 20, 5, 20, 0]), (RECTANGLE, [0, 20, 5, 5, 20, 0]),
            (RECTANGLE, [20, 0, 25, 10, 15, 20, 20, 30]), (RECTANGLE, [20, 0, 20, 7, 20, 30]),
            (NOTCHED, [10, 10, 10, 0]), (NOTCHED, [10, 10, 0, 10]), (NOTCHED, [10, 10, 20, 5, 30, 10]),
            (NOTCHED, [0, 0, 10, 10]), (NOTCHED, [40, 5, 0, 5]),
        ]
        for ring, way in ways:
            back = numbers_of([way[k:k + 2] for k in range(len(way) - 2, -1, -2)])
            for row in (way, back):
                for p, q in ((1, 2), (2, 1)):
                    with self.subTest(ring=ring, way=row, p=p):
                        line = Line().open(ring=ring).split(0, 10, row).join(p, q, 10).parcel(3)
                        self.assertEqual(told_parcel(line.last()[1])["ring"], ring)


class TestJoinedRings(unittest.TestCase):
    def test_ends_of_two_edges_in_common(self):
        line = cut(SQUARE, [15, 0, 15, 30], [0, 10, 15, 10], [15, 20, 30, 20])
        self.assertEqual(joined(line, [0, 10, 15, 10, 15, 30, 0, 30], [15, 0, 30, 0, 30, 20, 15, 20]),
                         [0, 10, 15, 10, 15, 0, 30, 0, 30, 20, 15, 20, 15, 30, 0, 30])

    def test_an_edge_within_the_others(self):
        line = cut(SQUARE, [15, 0, 15, 30], [15, 10, 30, 10], [15, 20, 30, 20])
        self.assertEqual(joined(line, LEFT_HALF, [15, 10, 30, 10, 30, 20, 15, 20]),
                         [0, 0, 15, 0, 15, 10, 30, 10, 30, 20, 15, 20, 15, 30, 0, 30])

    def test_an_edge_that_ends_with_the_others(self):
        line = cut(SQUARE, [15, 0, 15, 30], [15, 10, 30, 10])
        self.assertEqual(joined(line, LEFT_HALF, [15, 0, 30, 0, 30, 10, 15, 10]),
                         [0, 0, 30, 0, 30, 10, 15, 10, 15, 30, 0, 30])

    def test_part_of_a_slanting_edge(self):
        line = cut([0, 0, 12, 0, 12, 12, 0, 12], [0, 0, 12, 12], [4, 4, 4, 12], [8, 8, 8, 0])
        self.assertEqual(joined(line, [4, 4, 12, 12, 4, 12], [0, 0, 8, 0, 8, 8]),
                         [0, 0, 8, 0, 8, 8, 12, 12, 4, 12, 4, 4])

    def test_a_neighbour_in_a_notch(self):
        line = cut(SQUARE, [10, 0, 10, 10, 20, 10, 20, 0])
        self.assertEqual(joined(line, [10, 0, 20, 0, 20, 10, 10, 10],
                                [0, 0, 10, 0, 10, 10, 20, 10, 20, 0, 30, 0, 30, 30, 0, 30]), SQUARE)

    def test_far_apart(self):
        line = cut(SQUARE, [10, 0, 10, 30], [20, 0, 20, 30])
        self.assertEqual(joined(line, [0, 0, 10, 0, 10, 30, 0, 30], [20, 0, 30, 0, 30, 30, 20, 30]), -3)

    def test_on_one_line_without_a_common_stretch(self):
        # Edges on the line x 15, from 0 to 10 and from 20 to 30.
        line = cut(SQUARE, [15, 0, 15, 30], [0, 10, 15, 10], [15, 20, 30, 20])
        self.assertEqual(joined(line, [0, 0, 15, 0, 15, 10, 0, 10], [15, 20, 30, 20, 30, 30, 15, 30]), -3)

    def test_touching_at_a_point_of_both(self):
        line = cut(SQUARE, [15, 0, 15, 30], [0, 10, 15, 10], [15, 10, 30, 10])
        self.assertEqual(joined(line, [0, 0, 15, 0, 15, 10, 0, 10], [15, 10, 30, 10, 30, 30, 15, 30]), -3)
        self.assertEqual(joined(line, [0, 10, 15, 10, 15, 30, 0, 30], [15, 0, 30, 0, 30, 10, 15, 10]), -3)

    def test_touching_with_a_point_on_the_others_edge(self):
        line = cut(SQUARE, [0, 15, 30, 15], [10, 0, 15, 15], [15, 15, 20, 0])
        self.assertEqual(joined(line, [0, 15, 30, 15, 30, 30, 0, 30], [10, 0, 20, 0, 15, 15]), -3)
        self.assertEqual(joined(line, [10, 0, 20, 0, 15, 15], [15, 15, 20, 0, 30, 0, 30, 15]),
                         [10, 0, 30, 0, 30, 15, 15, 15])

    def test_a_hole_between_them(self):
        line = cut(SQUARE, [15, 0, 15, 10, 10, 10, 10, 20, 15, 20, 15, 30], [15, 10, 20, 10, 20, 20, 15, 20])
        left = [0, 0, 15, 0, 15, 10, 10, 10, 10, 20, 15, 20, 15, 30, 0, 30]
        right = [15, 0, 30, 0, 30, 30, 15, 30, 15, 20, 20, 20, 20, 10, 15, 10]
        middle = [10, 10, 20, 10, 20, 20, 10, 20]
        self.assertEqual(joined(line, left, right), -3)
        both = joined(line, left, middle)
        self.assertEqual(both, [0, 0, 15, 0, 15, 10, 20, 10, 20, 20, 15, 20, 15, 30, 0, 30])
        self.assertEqual(joined(line, both, right), SQUARE)

    def test_a_hole_in_a_side(self):
        line = cut(SQUARE, [15, 0, 15, 30], [15, 10, 20, 15, 15, 20])
        self.assertEqual(joined(line, LEFT_HALF, [15, 0, 30, 0, 30, 30, 15, 30, 15, 20, 20, 15, 15, 10]), -3)

    def test_a_stretch_and_a_point_besides(self):
        # The right one lies beside the left one up to 10, and comes back to it at (15, 20) alone.
        line = cut(SQUARE, [15, 0, 15, 30], [15, 10, 20, 15, 15, 20], [15, 20, 20, 30])
        right = [15, 0, 30, 0, 30, 30, 20, 30, 15, 20, 20, 15, 15, 10]
        self.assertEqual(joined(line, LEFT_HALF, right), -3)
        both = joined(line, LEFT_HALF, [15, 10, 20, 15, 15, 20])
        self.assertEqual(both, [0, 0, 15, 0, 15, 10, 20, 15, 15, 20, 15, 30, 0, 30])
        self.assertEqual(joined(line, both, right), [0, 0, 30, 0, 30, 30, 20, 30, 15, 20, 15, 30, 0, 30])

    def test_a_stretch_and_a_point_of_both_besides(self):
        # As before, but with the common point a corner of the left one too.
        line = cut(SQUARE, [15, 0, 15, 10, 10, 15, 15, 20, 10, 30], [15, 10, 15, 20], [15, 20, 20, 30])
        left = [0, 0, 15, 0, 15, 10, 10, 15, 15, 20, 10, 30, 0, 30]
        self.assertEqual(joined(line, left, [15, 0, 30, 0, 30, 30, 20, 30, 15, 20]), -3)

    def test_more_than_64_points(self):
        # Strips whose sides all have teeth, so that two of them have more points than one.
        def side(x):
            return numbers_of([(x, 0)] + [(x + k % 2, 5 * k) for k in range(1, 19)] + [(x, 100)])
        upper = [(x, 100 + x // 2 % 2) for x in range(100, -1, -2)]
        ring = numbers_of([(0, 0), (100, 0)] + upper)
        self.assertEqual(len(ring), 2 * 53)
        line = Line().open(ring=ring)
        self.assertEqual(line.last()[0], 0)
        line.split(0, 10, side(52)).split(1, 10, side(8)).split(2, 10, side(92)).join(4, 5, 10).parcels(6)
        found = line.last(10)
        self.assertEqual([answer[0] for answer in found[:4]], [1, 3, 5, -3])
        one, other = [told_parcel(answer[1])["ring"] for answer in found[-2:]]
        self.assertGreater(len(one) // 2 + len(other) // 2 - 40, 64)


class TestRefusals(unittest.TestCase):
    def quarters(self):
        """3 is the upper left, 4 the lower left, 5 the upper right, 6 the lower right."""
        line = Line().open(day=10).split(0, 12, [20, 0, 20, 30])
        return line.split(1, 12, [0, 15, 20, 15]).split(2, 12, [20, 15, 40, 15])

    def test_quarters(self):
        self.assertEqual(self.quarters().join(3, 5, 12).last(), (7, [1200]))
        self.assertEqual(self.quarters().join(3, 6, 12).last(), (-3, []))

    def test_one_with_itself(self):
        self.assertEqual(self.quarters().join(3, 3, 12).last(), (-1, []))

    def test_days(self):
        self.assertEqual(self.quarters().join(3, 5, 11).last(), (-1, []))
        self.assertEqual(self.quarters().join(3, 5, 1000000).last(), (7, [1200]))
        self.assertEqual(self.quarters().join(3, 5, 1000001).last(), (-1, []))
        self.assertEqual(self.quarters().undo().undo().undo().split(0, 10, [20, 0, 20, 30]).join(1, 2, 9).last(),
                         (-1, []))

    def test_no_such_parcel(self):
        for p, q in ((3, 7), (7, 3), (3, 1), (1, 3), (0, 4294967295)):
            with self.subTest(p=p, q=q):
                self.assertEqual(self.quarters().join(p, q, 12).last(), (-4, []))

    def test_other_shares(self):
        self.assertEqual(self.quarters().give(3, 12, 7, 8, 1, 2).join(3, 5, 12).last(), (-5, []))
        line = self.quarters().give(3, 12, 7, 8, 1, 2).give(5, 12, 7, 8, 1, 3)
        self.assertEqual(line.join(3, 5, 12).last(), (-5, []))
        self.assertEqual(line.give(5, 12, 7, 8, 1, 6).join(3, 5, 12).last(), (7, [1200]))
        line = self.quarters().give(3, 12, 7, 8, 1, 2).give(5, 12, 7, 9, 1, 2)
        self.assertEqual(line.join(3, 5, 12).last(), (-5, []))
        line = self.quarters().give(3, 12, 7, 8, 1, 1)
        self.assertEqual(line.join(3, 5, 12).last(), (-5, []))
        self.assertEqual(line.give(3, 12, 8, 7, 1, 1).join(3, 5, 12).last(), (7, [1200]))

    def many(self):
        """200 parcels, the last one made of strips 195 and 197."""
        return strips().join(195, 197, 10)

    def test_200_parcels(self):
        line = self.many().join(198, 199, 10)
        self.assertEqual(line.last(2), [(199, [120]), (-2, [])])

    def test_order(self):
        self.assertEqual(self.quarters().join(9, 9, 11).last(), (-1, []))
        self.assertEqual(self.quarters().join(9, 1, 11).last(), (-1, []))
        self.assertEqual(self.many().join(0, 198, 9).last(), (-1, []))
        self.assertEqual(self.many().join(0, 198, 10).last(), (-4, []))
        # Too many parcels, other shares, and far apart.
        self.assertEqual(self.many().give(198, 10, 7, 8, 1, 2).join(198, 1, 10).last(), (-2, []))
        # Other shares, and only a point in common.
        self.assertEqual(self.quarters().give(3, 12, 7, 8, 1, 2).join(3, 6, 12).last(), (-5, []))

    def test_a_refused_one_changes_nothing(self):
        def behind(line):
            line.parcels(8).give(4, 12, 7, 9, 1, 4).join(3, 5, 12)
            for k in range(7):
                line.undo().parcel(3)
            return line.ask()
        base = self.quarters().give(6, 12, 7, 8, 1, 2).size
        for wrong in ((3, 3, 12), (3, 5, 11), (3, 5, 1000001), (3, 1, 12), (9, 3, 12), (4, 6, 12), (4, 5, 90)):
            with self.subTest(wrong=wrong):
                plain = behind(self.quarters().give(6, 12, 7, 8, 1, 2))
                found = behind(self.quarters().give(6, 12, 7, 8, 1, 2).join(*wrong))
                self.assertLess(found[base][0], 0)
                self.assertEqual(found[:base] + found[base + 1:], plain)


if __name__ == "__main__":
    unittest.main()
