"""Promises 4 and 5 over all twelve calls: days stay as they were, acts taken back and refused calls leave no trace."""

import unittest

from tests.battery import answers_next, answers_on, changing_calls, day_questions, other_questions
from tests.lines import RECTANGLE, Line, strips
from tests.test_open import comb
from tests.test_promises import Play

PARCELS = range(12)
DAYS = (0, 9, 10, 11, 12, 13, 14, 15, 16, 17, 18, 19, 20, 21, 30, 1000000, 1000001, 4294967295)
OWNERS = (0, 7, 8, 9, 1001)
POINTS = ((0, 0), (10, 10), (20, 10), (20, 15), (30, 10), (30, 20), (35, 15), (40, 30), (41, 5))
WAYS = ([10, 0, 10, 30], [20, 15, 40, 15], [30, 0, 30, 15], [30, 15, 30, 30], [20, 0, 20, 29])

HISTORY = [[1, 7, 10, 8] + RECTANGLE, [2, 0, 12, 4, 20, 0, 20, 30], [4, 1, 13, 7, 8, 1, 2],
           [2, 2, 14, 4, 20, 15, 40, 15], [3, 3, 4, 16], [2, 5, 16, 4, 20, 15, 40, 15], [4, 6, 18, 7, 9, 1, 3],
           [4, 6, 18, 9, 7, 1, 3]]


def started(size=len(HISTORY)):
    """A history of all kinds of acts from day 10 to 18, or the first calls of it alone.

    There on day 18 are 1 (the left half), 6 and 7 (above and below in the right one). 5, the right half, came out of
    3 and 4 and was split on the same day, so it's on no day there.
    """
    line = Line()
    for call in HISTORY[:size]:
        line.add(*call)
    return line


def all_answers(line):
    """What all twelve calls answer next."""
    questions = day_questions(PARCELS, DAYS, OWNERS, POINTS) + other_questions(PARCELS)
    return answers_on(line, questions) + answers_next(line, changing_calls(range(9), (17, 18, 30), OWNERS, WAYS))


class TestHistory(unittest.TestCase):
    def test_it_is_as_told(self):
        line = started()
        self.assertEqual([answer[0] for answer in line.ask()], [0, 1, 0, 3, 5, 6, 0, 0])
        self.assertEqual(line.there(18).acts().last(2), [(3, [1, 6, 7]), (7, [18, 8])])

    def test_the_battery_tries_all_calls(self):
        questions = day_questions(PARCELS, DAYS, OWNERS, POINTS) + other_questions(PARCELS)
        calls = questions + changing_calls(range(9), (17, 18, 30), OWNERS, WAYS)
        self.assertEqual(sorted({call[0] for call in calls}), list(range(1, 13)))
        found = all_answers(started())
        for number in range(1, 13):
            answered = [answer[0] for call, answer in zip(calls, found) if call[0] == number]
            self.assertTrue([each for each in answered if each >= 0], number)


class TestRefused(unittest.TestCase):
    WRONG = [
        # open
        ([1, 1001, 20, 8] + RECTANGLE, -1), ([1, 0, 1000001, 8] + RECTANGLE, -1), ([1, 0, 0, 3, 1, 2, 3], -1),
        ([1, 0, 0, 0], -3), ([1, 0, 0, 8, 40, 0, 40, 30, 0, 30, 0, 0], -3),
        # split
        ([2, 1, 17, 4, 10, 0, 10, 30], -1), ([2, 1, 1000001, 4, 10, 0, 10, 30], -1), ([2, 0, 20, 4, 10, 0, 10, 30], -4),
        ([2, 8, 20, 4, 10, 0, 10, 30], -4), ([2, 1, 20, 4, 10, 0, 10, 29], -3), ([2, 1, 20, 3, 10, 0, 10], -3),
        # join
        ([3, 6, 6, 20], -1), ([3, 6, 7, 17], -1), ([3, 6, 7, 1000001], -1), ([3, 6, 8, 20], -4), ([3, 5, 6, 20], -4),
        ([3, 1, 6, 20], -5),
        # give
        ([4, 6, 20, 7, 1001, 1, 2], -1), ([4, 6, 20, 7, 7, 1, 2], -1), ([4, 6, 20, 7, 8, 0, 2], -1),
        ([4, 6, 20, 7, 8, 1, 0], -1), ([4, 6, 17, 7, 8, 1, 2], -1), ([4, 5, 20, 7, 8, 1, 2], -4),
        ([4, 6, 20, 9, 8, 1, 2], -5), ([4, 1, 20, 7, 8, 2, 3], -5),
        # parcel, whose, beside
        ([6, 8], -4), ([9, 8, 20], -4), ([9, 0, 20], -5), ([9, 5, 16], -5), ([9, 6, 15], -5), ([11, 0, 8], -4),
    ]

    def test_all_calls_answer_as_before(self):
        plain = all_answers(started())
        for call, number in self.WRONG:
            with self.subTest(call=call):
                line = started().add(*call)
                self.assertEqual(line.last(), (number, []))
                self.assertEqual(all_answers(line), plain)

    def test_rings_that_cannot_be_joined(self):
        line = started().split(6, 20, [30, 15, 30, 30]).split(7, 20, [30, 0, 30, 15])
        plain = all_answers(line)
        # Upper left and lower right of four.
        self.assertEqual(line.join(8, 11, 20).last(), (-3, []))
        self.assertEqual(all_answers(line), plain)

    def test_too_many_parcels(self):
        def found(line):
            questions = day_questions((0, 198, 199), (9, 10, 11), (7, 8), ((150, 15), (98, 5)))
            questions += other_questions((0, 1, 197, 198, 199))
            changing = changing_calls((0, 197, 198), (10,), (7, 8), ([150, 0, 150, 30],))
            return answers_on(line, questions) + answers_next(line, changing)
        full = strips().join(195, 197, 10)
        for line, call in ((strips(), [2, 198, 10, 4, 150, 0, 150, 30]), (full, [3, 198, 199, 10])):
            plain = found(line)
            self.assertEqual(line.add(*call).last(), (-2, []))
            self.assertEqual(found(line), plain)

    def test_too_many_points(self):
        line = Line().open(7, 10, comb(64)).give(0, 11, 7, 8, 1, 2)
        plain = all_answers(line)
        self.assertEqual(line.split(0, 18, [0, 2, 2, 0]).last(), (-2, []))
        self.assertEqual(all_answers(line), plain)

    def test_nothing_to_take_back(self):
        line = Line().open(7, 10)
        plain = all_answers(line)
        self.assertEqual(line.undo().last(), (-5, []))
        self.assertEqual(all_answers(line), plain)

    def test_no_registry(self):
        for call in ([2, 0, 10, 4, 20, 0, 20, 30], [3, 0, 1, 10], [4, 0, 10, 7, 8, 1, 2], [5], [6, 0], [7, 1, 1, 10],
                     [8, 10], [9, 0, 10], [10, 7, 10], [11, 0, 0], [12]):
            with self.subTest(call=call):
                line = Line().add(*call)
                self.assertEqual(line.last(), (-8, []))
                self.assertEqual(answers_next(line, [[12], [5], [8, 10], [10, 7, 10]]), [(-8, [])] * 4)
                self.assertEqual(all_answers(line.open(7, 10)), all_answers(Line().open(7, 10)))


class TestTakenBack(unittest.TestCase):
    ACTS = [[2, 1, 18, 4, 10, 0, 10, 30], [2, 6, 20, 4, 30, 15, 30, 30], [3, 6, 7, 18], [3, 7, 6, 25],
            [4, 1, 18, 7, 8, 1, 2], [4, 6, 18, 7, 9, 1, 5], [4, 7, 30, 7, 1000, 1, 1], [4, 1, 1000000, 8, 7, 1, 3]]

    def test_all_calls_answer_as_before_the_act(self):
        plain = all_answers(started())
        for act in self.ACTS:
            with self.subTest(act=act):
                line = started().add(*act)
                self.assertGreaterEqual(line.last()[0], 0)
                self.assertNotEqual(all_answers(line), plain)
                self.assertEqual(all_answers(line.undo()), plain)

    def test_back_through_the_history(self):
        line = started()
        for size in range(len(HISTORY) - 1, 0, -1):
            with self.subTest(size=size):
                self.assertEqual(all_answers(line.undo()), all_answers(started(size)))
        self.assertEqual(line.undo().last(), (-5, []))

    def test_asking_changes_nothing(self):
        plain = all_answers(started())
        line = started().parcel(0).at(20, 15, 18).there(12).whose(1, 13).holds(7, 50).beside(1, 6).acts()
        self.assertEqual(all_answers(line), plain)


class TestDaysStay(unittest.TestCase):
    def questions(self, days):
        return day_questions(range(8), days, OWNERS, POINTS)

    def check_whose_of_none_yet(self, before, after, calls):
        """Equal, but that whose of a parcel is -4 before it comes and -5 from then on."""
        for call, one, other in zip(calls, before, after):
            if call[0] == 9 and one[0] == -4:
                self.assertIn(other[0], (-4, -5), call)
            else:
                self.assertEqual(other, one, call)

    def test_each_act_of_the_history(self):
        for size, day in ((1, 12), (2, 13), (3, 14), (4, 16), (6, 18)):
            with self.subTest(size=size):
                calls = self.questions(range(day))
                before, after = [answers_on(line, calls) for line in (started(size), started())]
                self.check_whose_of_none_yet(before, after, calls)

    def test_acts_by_chance(self):
        for seed in range(700, 725):
            play = Play(seed)
            play.open()
            points = [play.layout.point((x, y)) for x in range(5) for y in range(5)]
            points = [point for point in points if min(point) >= 0]
            for k in range(4):
                play.some_acts(8, gifts=6, undos=0)
                last = play.model.now["days"][-1]
                calls = day_questions(range(40), range(max(0, last - 4), last), range(4), points)
                before = answers_on(play.line, calls)
                play.some_acts(8, gifts=6, undos=0)
                with self.subTest(seed=seed, k=k):
                    self.check_whose_of_none_yet(before, answers_on(play.line, calls), calls)


if __name__ == "__main__":
    unittest.main()
