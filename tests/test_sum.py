import unittest

from tests.spelling import LARGEST, answered, begins, cam, evenest, nearest, sum_of, wish


class MotionTest(unittest.TestCase):
    """The motion of a plan, where 0 is wished at each place."""

    def motion(self, plan, *cams):
        """The motion of the plan; with 0 wished it is off by just its own heights."""
        all_answers = answered(begins(len(cams[0])), *[cam(*heights) for heights in cams], sum_of(*plan))
        motion = all_answers[-1][2:]
        self.assertEqual(all_answers[-1], [sum(motion), max(motion), *motion])
        return motion

    def test_turned_by_0_a_cam_is_as_it_was(self):
        self.assertEqual(self.motion([0], [10, 20, 30, 40]), [10, 20, 30, 40])

    def test_turned_by_1_a_cam_is_as_high_as_it_was_one_place_further_on(self):
        self.assertEqual(self.motion([1], [10, 20, 30, 40]), [20, 30, 40, 10])

    def test_turned_by_the_number_of_places_less_1(self):
        self.assertEqual(self.motion([3], [10, 20, 30, 40]), [40, 10, 20, 30])

    def test_turned_by_each_number_of_places(self):
        for places in range(2, 9):
            heights = [place * place + 1 for place in range(places)]
            for by in range(places):
                with self.subTest(places=places, by=by):
                    self.assertEqual(
                        self.motion([by], heights),
                        [heights[(place + by) % places] for place in range(places)])

    def test_the_number_of_places_leaves_a_cam_in_the_box(self):
        for places in range(2, 9):
            with self.subTest(places=places):
                self.assertEqual(self.motion([places], range(1, places + 1)), [0] * places)

    def test_several_cams_lift_together(self):
        cams = [[1, 2, 3], [10, 20, 30], [100, 0, 50]]
        self.assertEqual(self.motion([0, 0, 0], *cams), [111, 22, 83])
        self.assertEqual(self.motion([0, 1, 2], *cams), [71, 132, 13])
        self.assertEqual(self.motion([2, 1, 0], *cams), [123, 31, 62])

    def test_some_cams_stay_in_the_box(self):
        cams = [[1, 2, 3], [10, 20, 30], [100, 0, 50]]
        self.assertEqual(self.motion([3, 1, 2], *cams), [70, 130, 10])
        self.assertEqual(self.motion([1, 3, 1], *cams), [2, 53, 101])
        self.assertEqual(self.motion([2, 0, 3], *cams), [13, 21, 32])
        self.assertEqual(self.motion([3, 3, 1], *cams), [0, 50, 100])
        self.assertEqual(self.motion([3, 3, 3], *cams), [0, 0, 0])

    def test_four_cams_lift_to_400(self):
        self.assertEqual(self.motion([0, 3, 7, 1], *[[100] * 8] * 4), [400] * 8)


class OffTest(unittest.TestCase):
    """How much a motion is off where 10, 20 and 30 are wished."""

    def off(self, *heights):
        all_answers = answered(begins(3), cam(*heights), wish(10, 20, 30), sum_of(0))
        self.assertEqual(all_answers[-1][2:], list(heights))
        return all_answers[-1][:2]

    def test_a_motion_as_wished(self):
        self.assertEqual(self.off(10, 20, 30), [0, 0])

    def test_a_higher_motion(self):
        self.assertEqual(self.off(15, 22, 30), [7, 5])
        self.assertEqual(self.off(11, 21, 100), [72, 70])

    def test_a_lower_motion(self):
        self.assertEqual(self.off(9, 17, 30), [4, 3])
        self.assertEqual(self.off(0, 0, 0), [60, 30])

    def test_a_motion_higher_here_and_lower_there(self):
        self.assertEqual(self.off(14, 20, 24), [10, 6])
        self.assertEqual(self.off(16, 20, 26), [10, 6])
        self.assertEqual(self.off(15, 15, 30), [10, 5])

    def test_the_motion_is_that_of_the_cams_as_turned(self):
        self.assertEqual(
            answered(begins(3), cam(30, 10, 20), wish(10, 20, 30), sum_of(0), sum_of(1), sum_of(2),
                     sum_of(3))[3:],
            [[40, 20, 30, 10, 20], [0, 0, 10, 20, 30], [40, 20, 20, 30, 10], [60, 30, 0, 0, 0]])

    def test_several_cams(self):
        self.assertEqual(
            answered(begins(2), cam(7, 1), cam(50, 60), wish(400, 0), sum_of(1, 0), sum_of(0, 2))[4:],
            [[416, 349, 51, 67], [394, 393, 7, 1]])

    def test_the_farthest_off_there_is(self):
        eight = [begins(8), *[cam(*[100] * 8)] * 4]
        self.assertEqual(answered(*eight, sum_of(0, 0, 0, 0))[-1], [3200, 400, *[400] * 8])
        self.assertEqual(
            answered(*eight, wish(*[400] * 8), sum_of(8, 8, 8, 8))[-1], [3200, 400, *[0] * 8])


class RefusedTest(unittest.TestCase):
    def test_with_no_cams_the_empty_plan_is_answered(self):
        self.assertEqual(answered(sum_of()), [[0, 0, 0, 0]])
        self.assertEqual(answered(wish(3, 4), sum_of()), [[0], [7, 4, 0, 0]])
        self.assertEqual(answered(begins(5), sum_of()), [[0], [0, 0, 0, 0, 0, 0, 0]])

    def test_with_no_cams_any_other_plan_is_refused(self):
        for plan in ((0,), (1,), (2,), (3,), (0, 0), (0,) * 12, (LARGEST,)):
            with self.subTest(plan=plan):
                self.assertEqual(answered(sum_of(*plan)), [[-1]])

    def test_only_a_number_for_each_cam_is_answered(self):
        for places in (2, 5, 8):
            for cams in range(5):
                put = [begins(places), *[cam(*[1] * places)] * cams]
                for length in range(13):
                    last = answered(*put, sum_of(*[1] * length))[-1]
                    with self.subTest(places=places, cams=cams, length=length):
                        if length == cams:
                            self.assertEqual(last, [cams * places, cams, *[cams] * places])
                        else:
                            self.assertEqual(last, [-1])

    def test_one_above_the_number_of_places_is_refused_for_each_cam(self):
        for places in range(2, 9):
            put = [begins(places), *[cam(*[1] * places)] * 4]
            for at in range(4):
                plan = [0] * 4
                plan[at] = places
                with self.subTest(places=places, at=at):
                    self.assertEqual(
                        answered(*put, sum_of(*plan))[-1], [3 * places, 3, *[3] * places])
                for number in (places + 1, places + 2, 256, 4294967296 - places, LARGEST):
                    plan[at] = number
                    with self.subTest(places=places, at=at, number=number):
                        self.assertEqual(answered(*put, sum_of(*plan))[-1], [-1])

    def test_a_cam_more_asks_for_a_number_more(self):
        self.assertEqual(
            answered(cam(1, 2), sum_of(0), cam(5, 9), sum_of(0), sum_of(0, 1)),
            [[0], [3, 2, 1, 2], [1], [-1], [17, 10, 10, 7]])

    def test_after_begins_the_plan_goes_by_the_new_box(self):
        self.assertEqual(
            answered(begins(3), cam(1, 2, 3), sum_of(3), begins(2), sum_of(2), sum_of(),
                     cam(1, 2), sum_of(3), sum_of(2)),
            [[0], [0], [0, 0, 0, 0, 0], [0], [-1], [0, 0, 0, 0], [0], [-1], [0, 0, 0, 0]])

    def test_refused_it_changes_nothing(self):
        put = [begins(3), cam(1, 2, 3), cam(50, 0, 7), wish(9, 8, 70)]
        shown = [sum_of(1, 2), nearest(), evenest(), cam(1, 1, 1), wish(1, 2, 3), sum_of(0, 0, 0)]
        expected = answered(*put, *shown)[len(put):]
        for plan in ((), (0,), (0, 0, 0), (4, 0), (0, 4), (LARGEST, LARGEST), (1,) * 12):
            with self.subTest(plan=plan):
                self.assertEqual(
                    answered(*put, sum_of(*plan), *shown)[len(put):], [[-1], *expected])

    def test_answered_it_changes_nothing(self):
        put = [begins(3), cam(1, 2, 3), cam(50, 0, 7), wish(9, 8, 70)]
        shown = [sum_of(0, 0), sum_of(1, 2), nearest(), evenest(), cam(1, 1, 1), sum_of(0, 0, 0)]
        expected = answered(*put, *shown)[len(put):]
        for plan in ((0, 0), (1, 2), (3, 1), (3, 3)):
            with self.subTest(plan=plan):
                self.assertEqual(answered(*put, *[sum_of(*plan)] * 3, *shown)[len(put) + 3:], expected)


if __name__ == "__main__":
    unittest.main()
