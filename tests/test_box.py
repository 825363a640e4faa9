"""What the box keeps from call to call, as sum, nearest and evenest show it."""

import unittest

from tests.spelling import LARGEST, answered, begins, cam, evenest, nearest, sum_of, wish

# A box with two cams, and what shows its cams and its wish.
TWO_CAMS = [begins(3), cam(100, 0, 0), cam(5, 6, 7), wish(30, 40, 50)]
SHOWN = [sum_of(0, 3), sum_of(1, 3), sum_of(2, 3), sum_of(3, 0), nearest(), evenest()]
OF_TWO_CAMS = [
    [160, 70, 100, 0, 0], [120, 50, 0, 0, 100], [140, 60, 0, 100, 0], [102, 43, 5, 6, 7],
    [102, 1, 3, 3, 0], [43, 1, 1, 3, 0]]

REFUSED = [
    (begins(0), -1), (begins(1), -1), (begins(9), -1), (begins(LARGEST), -1),
    (cam(), -1), (cam(1, 2), -1), (cam(1, 2, 3, 4), -1), (cam(101, 0, 0), -1), (cam(*[1] * 12), -1),
    (wish(), -1), (wish(1, 2), -1), (wish(1, 2, 3, 4), -1), (wish(0, 0, 401), -1), (wish(*[1] * 12), -1),
    (sum_of(), -1), (sum_of(0), -1), (sum_of(0, 4), -1), (sum_of(0, 0, 0), -1),
]


class KeptTest(unittest.TestCase):
    def after(self, *calls, shown=SHOWN):
        """What shows the box, behind these calls."""
        return answered(*calls, *shown)[len(calls):]

    def test_a_new_box(self):
        self.assertEqual(
            answered(sum_of(), nearest(), evenest()), [[0, 0, 0, 0], [0, 0, 1], [0, 0, 1]])
        self.assertEqual(
            answered(cam(3, 4), sum_of(0), sum_of(1), nearest()),
            [[0], [7, 4, 3, 4], [7, 4, 4, 3], [0, 0, 1, 2]])

    def test_cams_and_wish_are_kept(self):
        self.assertEqual(self.after(*TWO_CAMS), OF_TWO_CAMS)

    def test_cams_are_kept_in_order(self):
        cams = [cam(1, 2), cam(10, 20), cam(0, 100), cam(40, 30)]
        self.assertEqual(
            answered(*cams, sum_of(0, 2, 2, 2), sum_of(2, 0, 2, 2), sum_of(2, 2, 0, 2),
                     sum_of(2, 2, 2, 0))[4:],
            [[3, 2, 1, 2], [30, 20, 10, 20], [100, 100, 0, 100], [70, 40, 40, 30]])

    def test_the_heights_wished_are_kept_in_order(self):
        self.assertEqual(
            answered(begins(3), cam(30, 40, 50), wish(40, 50, 30), sum_of(0), sum_of(1), nearest(),
                     evenest())[3:],
            [[40, 20, 30, 40, 50], [0, 0, 40, 50, 30], [0, 1, 1, 1], [0, 1, 1, 1]])

    def test_the_wish_may_come_ahead_of_the_cams(self):
        begun, one, other, wished = TWO_CAMS
        self.assertEqual(self.after(begun, wished, one, other), OF_TWO_CAMS)
        self.assertEqual(self.after(begun, one, wished, other), OF_TWO_CAMS)

    def test_the_last_wish_is_kept(self):
        self.assertEqual(
            answered(wish(3, 4), nearest(), wish(400, 0), nearest(), evenest(), wish(0, 0), nearest()),
            [[0], [7, 0, 1], [0], [400, 0, 1], [400, 0, 1], [0], [0, 0, 1]])
        self.assertEqual(self.after(*TWO_CAMS, wish(1, 1, 1), wish(30, 40, 50)), OF_TWO_CAMS)

    def test_after_begins_there_are_no_cams_and_0_is_wished_at_each_place(self):
        for places in range(2, 9):
            zeros = [0] * places
            with self.subTest(places=places):
                self.assertEqual(
                    self.after(*TWO_CAMS, begins(places), shown=[
                        sum_of(), nearest(), evenest(), sum_of(0, 0), cam(*zeros), sum_of(0),
                        nearest(), evenest()]),
                    [[0, 0, *zeros], [0, 0, 1], [0, 0, 1], [-1], [0], [0, 0, *zeros],
                     [0, 0, 1, places], [0, 0, 1, places]])

    def test_after_begins_the_cams_before_it_lift_nothing(self):
        self.assertEqual(
            self.after(*TWO_CAMS, begins(3), cam(1, 2, 3), wish(2, 3, 1), shown=[
                sum_of(0), sum_of(1), sum_of(3), nearest(), evenest()]),
            [[4, 2, 1, 2, 3], [0, 0, 2, 3, 1], [6, 3, 0, 0, 0], [0, 1, 1, 1], [0, 1, 1, 1]])

    def test_a_refusal_changes_nothing(self):
        behind = [cam(9, 8, 7), sum_of(0, 1, 2), wish(3, 2, 1), nearest(), evenest()]
        expected = self.after(*TWO_CAMS, shown=[*SHOWN, *behind])
        self.assertEqual(expected[:len(SHOWN)], OF_TWO_CAMS)
        for call, told in REFUSED:
            with self.subTest(call=call):
                self.assertEqual(
                    answered(*TWO_CAMS, call, *SHOWN, *behind)[len(TWO_CAMS):], [[told], *expected])

    def test_a_refused_fifth_cam_changes_nothing(self):
        full = [begins(2), cam(1, 2), cam(3, 5), cam(9, 0), cam(20, 10), wish(16, 15)]
        shown = [sum_of(0, 0, 0, 0), sum_of(0, 1, 2, 1), nearest(), evenest(), sum_of(0, 0, 0, 0, 0)]
        expected = self.after(*full, shown=shown)
        for call, told in ((cam(50, 60), -5), (cam(50, 101), -1), (cam(50), -1)):
            with self.subTest(call=call):
                self.assertEqual(
                    answered(*full, call, *shown)[len(full):], [[told], *expected])

    def test_a_refused_wish_or_begins_leaves_what_was_wished(self):
        for call in (wish(1, 401), wish(1), wish(), wish(1, 2, 3), begins(0), begins(1), begins(9)):
            with self.subTest(call=call):
                self.assertEqual(
                    answered(cam(7, 9), wish(9, 7), call, nearest(), evenest(), sum_of(0)),
                    [[0], [0], [-1], [0, 1, 1, 1], [0, 1, 1, 1], [4, 2, 7, 9]])

    def test_nearest_and_evenest_asked_twice_answer_alike(self):
        near, even = OF_TWO_CAMS[-2:]
        self.assertEqual(
            self.after(*TWO_CAMS, shown=[nearest(), nearest(), evenest(), evenest(), nearest()]),
            [near, near, even, even, near])

    def test_nearest_and_evenest_change_nothing(self):
        behind = [*SHOWN, cam(9, 8, 7), sum_of(0, 1, 2), nearest(), evenest(), wish(3, 2, 1),
                  sum_of(0, 1, 2), nearest(), evenest(), begins(2), nearest(), evenest()]
        expected = self.after(*TWO_CAMS, shown=behind)
        for asked in ([nearest()], [evenest()], [nearest(), evenest()] * 3):
            with self.subTest(asked=asked):
                self.assertEqual(self.after(*TWO_CAMS, *asked, shown=behind), expected)

    def test_asked_after_each_call_they_go_by_what_is_there_then(self):
        self.assertEqual(
            answered(nearest(), wish(4, 9), nearest(), evenest(), cam(9, 4), nearest(), evenest(),
                     cam(4, 9), nearest(), begins(2), nearest(), evenest()),
            [[0, 0, 1], [0], [13, 0, 1], [9, 0, 1], [0], [0, 1, 1, 1], [0, 1, 1, 1],
             [1], [0, 1, 2, 1, 2], [0], [0, 0, 1], [0, 0, 1]])


if __name__ == "__main__":
    unittest.main()
