"""The interface: how calls are read, how answers are told, and what must not be changed or kept."""

import unittest

from landdays.desk import answers
from tests.lines import RECTANGLE, Line

ONE_OF_EACH = [
    [2, 0, 10, 4, 20, 0, 20, 30], [3, 0, 1, 10], [4, 0, 10, 7, 8, 1, 2], [5], [6, 0],
    [7, 1, 1, 10], [8, 10], [9, 0, 10], [10, 7, 10], [11, 0, 0], [12],
]


class UnchangingList(list):
    """A list that tells when one tries to change it, even for a while."""

    def refuse(self, *others, **named):
        raise AssertionError("what's handed in was changed")

    append = extend = insert = pop = remove = clear = sort = reverse = refuse
    __setitem__ = __delitem__ = __iadd__ = __imul__ = refuse


class TestForm(unittest.TestCase):
    def test_an_answer_with_a_list_has_counts_and_a_closing_0(self):
        self.assertEqual(answers([1, 7, 10, 8] + RECTANGLE), [4, 0, 1, 2400, 0])

    def test_an_answer_without_a_list_is_its_number(self):
        self.assertEqual(answers([1, 1001, 10, 8] + RECTANGLE), [1, -1])

    def test_answers_stand_one_behind_another(self):
        calls = [1, 7, 10, 8] + RECTANGLE + [2, 0, 11, 4, 20, 0, 20, 30, 6, 1, 6, 3, 5, 5]
        self.assertEqual(answers(calls), [
            4, 0, 1, 2400, 0,
            5, 1, 2, 1200, 1200, 0,
            16, 0, 13, -1, 11, 1200, 1, 0, 0, 0, 20, 0, 20, 30, 0, 30, 0,
            1, -4,
            1, 0,
            1, -5])

    def test_the_forms_of_questions(self):
        calls = [1, 7, 10, 8] + RECTANGLE + [2, 0, 11, 4, 20, 0, 20, 30, 4, 1, 12, 7, 8, 1, 3]
        questions = [7, 20, 10, 11, 7, 10, 10, 11, 7, 41, 0, 11, 8, 12, 8, 9, 9, 1, 12, 9, 3, 12, 9, 0, 12,
                     10, 8, 12, 10, 9, 12, 11, 1, 2, 11, 1, 1, 11, 1, 3, 12]
        self.assertEqual(answers(calls + questions)[len(answers(calls)):], [
            5, 0, 2, 1, 2, 0,
            4, 1, 1, 1, 0,
            1, 0,
            5, 2, 2, 1, 2, 0,
            1, 0,
            9, 2, 6, 7, 2, 3, 8, 1, 3, 0,
            1, -4,
            1, -5,
            5, 1, 2, 200, 1, 0,
            5, 0, 2, 0, 1, 0,
            1, 2,
            1, 1,
            1, -4,
            5, 2, 2, 12, 3, 0])

    def test_empty_rows_are_read(self):
        self.assertEqual(answers([1, 7, 10, 0, 5]), [1, -3, 1, -8])
        line = Line().open().split(0, 10, []).undo()
        self.assertEqual(line.last(2), [(-3, []), (-5, [])])

    def test_rows_of_200_numbers_are_read(self):
        line = Line().open(ring=[1] * 200).open().split(0, 10, [1] * 200).parcel(1)
        self.assertEqual(line.ask(), [(-3, []), (0, [2400]), (-3, []), (-4, [])])

    def test_greatest_numbers_are_read(self):
        most = 4294967295
        line = Line().open(most, most, [most] * 8).open().open(0, 0, [most] * 8)
        line.split(most, 10, [most] * 4).split(0, 10, [most] * 4).split(0, most, [most] * 4)
        line.join(most, 0, 10).give(0, 10, most, most, most, most).parcel(most).undo()
        line.at(most, most, most).there(most).whose(most, most).whose(0, most).holds(most, most).beside(most, most)
        self.assertEqual([answer[0] for answer in line.ask()],
                         [-1, 0, -3, -4, -3, -1, -4, -1, -4, -5, 0, 1, -4, 1, 0, -4])

    def test_the_other_calls_are_read_to_their_end(self):
        for call in ONE_OF_EACH:
            with self.subTest(call=call):
                line = Line().add(*call).open().add(*call).open(day=12)
                found = line.ask()
                self.assertEqual(found[1], (0, [2400]))
                self.assertEqual(found[3], (0, [2400]))

    def test_400_calls(self):
        line = Line().open()
        for k in range(399):
            line.give(0, 10, 7 + k % 2, 8 - k % 2, 1, 1)
        self.assertEqual(line.ask()[1:], [(0, [0, 1])] * 399)


class TestNoRegistry(unittest.TestCase):
    def test_every_call_but_open_is_refused(self):
        for call in ONE_OF_EACH:
            with self.subTest(call=call):
                self.assertEqual(answers(call), [1, -8])

    def test_so_it_is_behind_a_refused_open(self):
        for call in ONE_OF_EACH:
            with self.subTest(call=call):
                self.assertEqual(answers([1, 1001, 0, 8] + RECTANGLE + call), [1, -1, 1, -8])

    def test_it_comes_before_any_other_refusal(self):
        line = Line().split(9, 2000000, [1]).join(0, 0, 2000000).give(0, 0, 1, 1, 0, 0)
        self.assertEqual(line.ask(), [(-8, [])] * 3)


class TestNothingKept(unittest.TestCase):
    def test_what_is_handed_in_is_not_changed(self):
        line = Line().open().split(0, 11, [20, 0, 20, 30]).give(1, 12, 7, 8, 1, 3).undo()
        line.join(1, 2, 12).undo().undo().parcels(3).split(0, 1, [1]).open(ring=[1, 2, 3])
        line.at(20, 10, 11).there(11).whose(0, 10).holds(7, 10).beside(0, 0).acts()
        before = list(line.calls)
        found = answers(UnchangingList(line.calls))
        self.assertEqual(line.calls, before)
        self.assertEqual(found, answers(before))

    def test_an_object_is_new_each_time(self):
        calls = Line().open().split(0, 11, [20, 0, 20, 30]).calls
        first = answers(calls)
        self.assertEqual(answers([6, 0]), [1, -8])
        self.assertEqual(answers(calls), first)

    def test_asking_twice_answers_the_same(self):
        line = Line().open().split(0, 11, [20, 0, 20, 30]).give(1, 12, 7, 8, 1, 3)
        for k in range(2):
            line.parcel(1).at(20, 10, 11).there(11).whose(1, 12).holds(7, 12).beside(1, 2).acts()
        self.assertEqual(line.last(14)[:7], line.last(7))

    def test_what_is_given_back_may_be_changed(self):
        calls = Line().open().split(0, 11, [20, 0, 20, 30]).parcel(1).there(11).whose(1, 11).calls
        first = answers(calls)
        kept = list(first)
        first.clear()
        self.assertEqual(answers(calls), kept)


if __name__ == "__main__":
    unittest.main()
