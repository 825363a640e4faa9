"""nearest and evenest, by hand and against plain counting of all plans."""

import unittest
from itertools import product

from tests.spelling import answered, begins, cam, evenest, nearest, sum_of, wish


def offs_of(plan, cams, wished):
    """How much the plan is off at each place, place by place as the words tell it."""
    places = len(wished)
    offs = []
    for place in range(places):
        height = 0
        for heights, by in zip(cams, plan):
            if by < places:
                height += heights[(place + by) % places]
        offs.append(abs(height - wished[place]))
    return offs


def counted(cams, wished):
    """What nearest and evenest are to answer, by counting all plans, earlier ones first."""
    places = len(wished)
    plans = [list(plan) for plan in product(range(places + 1), repeat=len(cams))]
    offs = [offs_of(plan, cams, wished) for plan in plans]
    both = []
    for measure in (sum, max):
        measured = [measure(each) for each in offs]
        least = min(measured)
        as_near = [plan for plan, off in zip(plans, measured) if off == least]
        cams_of = [sum(by < places for by in plan) for plan in as_near]
        fewest = min(cams_of)
        as_good = [plan for plan, count in zip(as_near, cams_of) if count == fewest]
        both.append([least, fewest, len(as_good), *as_good[0]])
    return both


def put_in(cams, wished):
    return [begins(len(wished)), *[cam(*heights) for heights in cams], wish(*wished)]


def best(cams, wished):
    """What nearest and evenest answer."""
    return answered(*put_in(cams, wished), nearest(), evenest())[-2:]


def motion_of(plan, cams):
    """The heights a plan lifts to: how much it is off where 0 is wished."""
    return offs_of(plan, cams, [0] * len(cams[0]))


def numbers(seed):
    """Numbers that follow no plain pattern, the same each time."""
    while True:
        seed = (seed * 1103515245 + 12345) % 2147483648
        yield seed // 65536


def rows(made, how_many, places, highest):
    return [[next(made) % (highest + 1) for place in range(places)] for row in range(how_many)]


class ByHandTest(unittest.TestCase):
    def test_a_new_box(self):
        self.assertEqual(answered(nearest()), [[0, 0, 1]])
        self.assertEqual(answered(evenest()), [[0, 0, 1]])

    def test_no_cams(self):
        self.assertEqual(best([], [3, 4]), [[7, 0, 1], [4, 0, 1]])
        self.assertEqual(best([], [400] * 8), [[3200, 0, 1], [400, 0, 1]])

    def test_just_as_wished(self):
        self.assertEqual(
            best([[30, 10, 20]], [10, 20, 30]), [[0, 1, 1, 1], [0, 1, 1, 1]])
        self.assertEqual(
            best([[1, 2, 4], [10, 20, 40]], [42, 14, 21]), [[0, 2, 1, 1, 2], [0, 2, 1, 1, 2]])

    def test_all_stay_in_the_box(self):
        self.assertEqual(best([[9, 8], [7, 7]], [0, 0]), [[0, 0, 1, 2, 2], [0, 0, 1, 2, 2]])
        self.assertEqual(
            best([[100] * 8] * 4, [49] * 8), [[392, 0, 1, 8, 8, 8, 8], [49, 0, 1, 8, 8, 8, 8]])

    def test_a_cam_that_lifts_nothing_stays_in_the_box(self):
        self.assertEqual(best([[0, 0]], [0, 0]), [[0, 0, 1, 2], [0, 0, 1, 2]])
        self.assertEqual(
            best([[0, 0], [5, 0]], [0, 5]), [[0, 1, 1, 2, 1], [0, 1, 1, 2, 1]])

    def test_turns_that_look_alike_are_plans_of_their_own(self):
        self.assertEqual(best([[5, 5]], [5, 5]), [[0, 1, 2, 0], [0, 1, 2, 0]])
        self.assertEqual(best([[1, 5, 1, 5]], [5, 1, 5, 1]), [[0, 1, 2, 1], [0, 1, 2, 1]])
        self.assertEqual(
            best([[100] * 8] * 4, [400] * 8), [[0, 4, 4096, 0, 0, 0, 0], [0, 4, 4096, 0, 0, 0, 0]])

    def test_of_equal_cams_the_first_is_put_on(self):
        # A cam in the box has the highest number, so the plan that has the first is earlier.
        self.assertEqual(best([[1, 0], [1, 0]], [1, 0]), [[0, 1, 2, 0, 2], [0, 1, 2, 0, 2]])
        self.assertEqual(
            best([[9, 0, 0]] * 3, [0, 9, 0]), [[0, 1, 3, 2, 3, 3], [0, 1, 3, 2, 3, 3]])

    def test_of_plans_as_good_the_first_cam_that_differs_tells_which_is_earlier(self):
        self.assertEqual(
            best([[3, 0, 0], [3, 0, 0]], [3, 3, 0]), [[0, 2, 2, 0, 2], [0, 2, 2, 0, 2]])
        self.assertEqual(
            best([[5, 0], [1, 1], [5, 0]], [5, 5]), [[0, 2, 2, 0, 2, 1], [0, 2, 2, 0, 2, 1]])

    def test_fewer_cams_go_ahead_of_an_earlier_plan(self):
        self.assertEqual(
            best([[1, 0], [0, 1], [1, 1]], [1, 1]), [[0, 1, 2, 2, 2, 0], [0, 1, 2, 2, 2, 0]])
        # As near with a cam as without: 1 too low or 1 too high.
        self.assertEqual(best([[2, 2]], [1, 1]), [[2, 0, 1, 2], [1, 0, 1, 2]])

    def test_less_off_goes_ahead_of_fewer_cams(self):
        self.assertEqual(
            best([[48, 0], [1, 0], [50, 0]], [49, 0]), [[0, 2, 1, 0, 0, 2], [0, 2, 1, 0, 0, 2]])

    def test_nearest_and_evenest_differ(self):
        self.assertEqual(best([[3, 3, 3]], [6, 0, 0]), [[6, 0, 1, 3], [3, 1, 3, 0]])
        self.assertEqual(
            best([[8, 0, 0], [4, 4, 4]], [8, 0, 7]), [[7, 1, 1, 0, 3], [4, 1, 3, 3, 0]])


class CountedTest(unittest.TestCase):
    def assert_as_counted(self, cams, wished):
        with self.subTest(cams=cams, wished=wished):
            self.assertEqual(best(cams, wished), counted(cams, wished))

    def test_heights_of_every_size(self):
        made = numbers(1)
        for places in range(2, 9):
            for cams in range(5 if places in (2, 3, 8) else 4):
                put = rows(made, cams, places, 100)
                for highest in (100, 100 * cams + 1, 400):
                    self.assert_as_counted(put, rows(made, 1, places, min(highest, 400))[0])

    def test_small_heights_of_which_many_plans_are_as_good(self):
        made = numbers(2)
        for places in (2, 3, 4, 8):
            for cams in range(1, 5 if places < 8 else 4):
                for time in range(6):
                    put = rows(made, cams, places, 2)
                    self.assert_as_counted(put, rows(made, 1, places, cams + 1)[0])

    def test_motions_that_a_plan_gives(self):
        made = numbers(3)
        for places in (2, 5, 8):
            for cams in range(1, 5):
                put = rows(made, cams, places, 100)
                for time in range(2):
                    plan = rows(made, 1, cams, places)[0]
                    wished = motion_of(plan, put)
                    self.assert_as_counted(put, wished)
                    self.assertEqual([each[0] for each in best(put, wished)], [0, 0])

    def test_equal_cams(self):
        made = numbers(4)
        for places in (2, 4, 8):
            for cams in range(2, 5 if places < 8 else 4):
                put = rows(made, 1, places, 5) * cams
                self.assert_as_counted(put, rows(made, 1, places, 5 * cams)[0])

    def test_nearest_and_evenest_differ_in_these_boxes(self):
        made = numbers(5)
        differ = 0
        for time in range(20):
            put = rows(made, 3, 4, 100)
            wished = rows(made, 1, 4, 200)[0]
            self.assert_as_counted(put, wished)
            near, even = best(put, wished)
            differ += near[3:] != even[3:]
        self.assertGreater(differ, 5)

    def test_no_plan_is_less_off_by_what_sum_answers(self):
        cams = [[7, 0, 3], [1, 2, 9]]
        wished = [6, 4, 11]
        plans = list(product(range(4), repeat=2))
        sums = answered(*put_in(cams, wished), *[sum_of(*plan) for plan in plans])[4:]
        near, even = best(cams, wished)
        self.assertEqual(near[0], min(each[0] for each in sums))
        self.assertEqual(even[0], min(each[1] for each in sums))
        self.assertEqual(near[0], sums[plans.index(tuple(near[3:]))][0])
        self.assertEqual(even[0], sums[plans.index(tuple(even[3:]))][1])


class SixtyCallsTest(unittest.TestCase):
    def test_as_often_as_they_fit_over_four_cams_with_eight_places(self):
        made = numbers(6)
        cams = rows(made, 4, 8, 100)
        wished = rows(made, 1, 8, 400)[0]
        calls = [*put_in(cams, wished), *[nearest(), evenest()] * 27]
        self.assertEqual(len(calls), 60)
        self.assertEqual(
            answered(*calls), [[0], [0], [1], [2], [3], [0], *counted(cams, wished) * 27])

    def test_each_time_with_another_wish(self):
        made = numbers(7)
        cams = rows(made, 4, 8, 100)
        wishes = rows(made, 6, 8, 250)
        calls = put_in(cams, [0] * 8)
        expected = [[0], [0], [1], [2], [3], [0]]
        for wished in wishes:
            calls += [wish(*wished), nearest(), evenest()] * 3
            expected += [[0], *counted(cams, wished)] * 3
        self.assertEqual(len(calls), 60)
        self.assertEqual(answered(*calls), expected)


if __name__ == "__main__":
    unittest.main()
