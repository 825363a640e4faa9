import unittest

from cambox.cams import UnknownCall, answers
from tests.spelling import answered, begins, cam, evenest, in_one_list, nearest, sum_of, wish

# Ten calls, and what each answers whatever was there before them.
TEN = [
    (begins(3), 0),
    (cam(10, 0, 100), 0),
    (cam(10, 0, 101), -1),
    (cam(1, 2, 3), 1),
    (wish(400, 0, 7), 0),
    (wish(401, 0, 7), -1),
    (cam(4, 5, 6), 2),
    (begins(9), -1),
    (cam(7, 8, 9), 3),
    (cam(7, 8, 9), -5),
]

# Every kind of call, taken and, where it can be, refused.
EVERY = [
    begins(3), cam(10, 0, 100), cam(1, 2, 3), wish(300, 0, 7), nearest(), evenest(), sum_of(1, 2),
    begins(9), cam(1, 2), wish(1, 2), sum_of(1), sum_of(1, 4), evenest(), nearest()]


class Watched(list):
    """A list that takes no change, not for a while either."""

    def refuse(self, *others, **named):
        raise AssertionError("the list handed in is changed")

    append = clear = extend = insert = pop = remove = reverse = sort = refuse
    __setitem__ = __delitem__ = __iadd__ = __imul__ = refuse


class AnswersTest(unittest.TestCase):
    def test_how_many_numbers_are_answered_stands_before_them(self):
        self.assertEqual(
            answers([0, 3, 1, 3, 10, 0, 100, 1, 3, 1, 2, 3, 2, 3, 400, 0, 7]),
            [1, 0, 1, 0, 1, 1, 1, 0])

    def test_a_refusal_is_one_number_alone(self):
        self.assertEqual(answers([0, 9]), [1, -1])
        self.assertEqual(answers([1, 0]), [1, -1])
        self.assertEqual(answers([2, 1, 5]), [1, -1])
        self.assertEqual(
            answers([1, 2, 0, 0] * 5), [1, 0, 1, 1, 1, 2, 1, 3, 1, -5])
        self.assertEqual(answers([3, 1, 0]), [1, -1])
        self.assertEqual(answers([1, 2, 5, 6, 3, 1, 3]), [1, 0, 1, -1])

    def test_what_sum_answers_stands_behind_one_count(self):
        self.assertEqual(
            answers([1, 2, 5, 9, 2, 2, 8, 8, 3, 1, 0, 3, 1, 1]),
            [1, 0, 1, 0, 4, 4, 3, 5, 9, 4, 4, 3, 9, 5])

    def test_what_nearest_and_evenest_answer_stands_behind_one_count(self):
        self.assertEqual(
            answers([0, 3, 1, 3, 3, 3, 3, 2, 3, 6, 0, 0, 4, 5]),
            [1, 0, 1, 0, 1, 0, 4, 6, 0, 1, 3, 4, 3, 1, 3, 0])
        self.assertEqual(answers([4, 5]), [3, 0, 0, 1, 3, 0, 0, 1])

    def test_numbers_of_a_refused_row_are_not_taken_for_calls(self):
        self.assertEqual(
            answered(cam(0, 3, 1), cam(0, 8, 0, 8, 0, 8, 0, 8, 0, 8, 0, 8), cam(1, 2), wish(0)),
            [[-1], [-1], [0], [-1]])
        self.assertEqual(
            answered(sum_of(4, 5, 4), sum_of(*[4] * 12), cam(4, 5), sum_of(4), sum_of(2)),
            [[-1], [-1], [0], [-1], [0, 0, 0, 0]])

    def test_nothing_is_read_behind_nearest_and_evenest(self):
        self.assertEqual(
            answers([4, 0, 3, 5, 0, 2, 4]), [3, 0, 0, 1, 1, 0, 3, 0, 0, 1, 1, 0, 3, 0, 0, 1])

    def test_any_call_may_be_the_first(self):
        self.assertEqual(answers([0, 8]), [1, 0])
        self.assertEqual(answers([1, 2, 100, 100]), [1, 0])
        self.assertEqual(answers([2, 2, 400, 400]), [1, 0])
        self.assertEqual(answers([3, 0]), [4, 0, 0, 0, 0])
        self.assertEqual(answers([4]), [3, 0, 0, 1])
        self.assertEqual(answers([5]), [3, 0, 0, 1])

    def test_sixty_calls_are_answered_in_order(self):
        calls = in_one_list([call for call, told in TEN] * 6)
        expected = in_one_list([[1, told] for call, told in TEN] * 6)
        self.assertEqual(answers(calls), expected)

    def test_sixty_calls_of_the_longest_rows(self):
        row = [100] * 12
        calls = [begins(8), *[cam(*row), wish(*row)] * 29, cam(*[100] * 8)]
        self.assertEqual(answered(*calls), [[0], *[[-1], [-1]] * 29, [0]])
        calls = [begins(8), *[sum_of(*row)] * 58, sum_of()]
        self.assertEqual(answered(*calls), [[0], *[[-1]] * 58, [0] * 10])

    def test_the_list_handed_in_stays_as_it_is(self):
        calls = in_one_list(EVERY)
        before = list(calls)
        answers(calls)
        self.assertEqual(calls, before)

    def test_the_list_handed_in_is_not_changed_for_a_while_either(self):
        calls = in_one_list(EVERY)
        self.assertEqual(answers(Watched(calls)), answers(calls))

    def test_the_example_of_the_readme(self):
        self.assertEqual(
            answers([0, 3, 1, 3, 30, 10, 20, 2, 3, 12, 20, 30, 3, 1, 0, 4, 5]),
            [1, 0, 1, 0, 1, 0, 5, 38, 18, 30, 10, 20, 4, 2, 1, 1, 1, 4, 2, 1, 1, 1])

    def test_every_kind_of_call_in_one_list(self):
        near, even = [213, 2, 1, 2, 2], [197, 2, 1, 2, 2]
        self.assertEqual(answered(*EVERY), [
            [0], [0], [1], [0], near, even, [403, 297, 3, 101, 12],
            [-1], [-1], [-1], [-1], [-1], even, near])

    def test_nothing_is_kept_from_one_time_to_the_next(self):
        full = in_one_list([begins(8), *[cam(*[1] * 8)] * 4, wish(*[5] * 8)])
        first = answers(full)
        self.assertEqual(first, [1, 0, 1, 0, 1, 1, 1, 2, 1, 3, 1, 0])
        self.assertEqual(answers(cam(1, 2)), [1, 0])
        self.assertEqual(answers(wish(1, 2)), [1, 0])
        self.assertEqual(answers(cam(*[1] * 8)), [1, -1])
        self.assertEqual(answers(nearest()), [3, 0, 0, 1])
        self.assertEqual(answers(evenest()), [3, 0, 0, 1])
        self.assertEqual(answers(sum_of()), [4, 0, 0, 0, 0])
        self.assertEqual(answers(full), first)

    def test_a_second_time_all_is_answered_as_the_first_time(self):
        first = answered(*EVERY)
        self.assertEqual(answered(*EVERY), first)
        self.assertEqual(answered(*EVERY, *EVERY), first * 2)

    def test_what_is_given_back_is_a_new_list_each_time(self):
        calls = [0, 3]
        first = answers(calls)
        first.append(7)
        self.assertEqual(answers(calls), [1, 0])
        self.assertEqual(calls, [0, 3])

    def test_it_gives_back_a_list_of_whole_numbers(self):
        given = answers(in_one_list(EVERY))
        self.assertIs(type(given), list)
        for number in given:
            self.assertIs(type(number), int)

    def test_a_number_that_is_no_calls_is_not_passed_over(self):
        with self.assertRaises(UnknownCall):
            answers([6])


if __name__ == "__main__":
    unittest.main()
