import unittest

from tests.spelling import LARGEST, answered, begins, cam, wish


class CamTest(unittest.TestCase):
    def test_cams_are_numbered_from_0(self):
        self.assertEqual(
            answered(begins(3), cam(10, 0, 100), cam(1, 2, 3), cam(0, 0, 0), cam(100, 100, 100)),
            [[0], [0], [1], [2], [3]])

    def test_equal_cams_are_cams_of_their_own(self):
        self.assertEqual(answered(cam(5, 6), cam(5, 6), cam(5, 6)), [[0], [1], [2]])

    def test_ahead_of_any_begins_there_are_two_places(self):
        self.assertEqual(answered(cam(3, 4)), [[0]])
        for heights in ((), (3,), (3, 4, 5), (1,) * 8):
            with self.subTest(heights=heights):
                self.assertEqual(answered(cam(*heights)), [[-1]])

    def test_a_height_of_100_is_taken_and_one_of_101_refused_at_each_place(self):
        for places in range(2, 9):
            for place in range(places):
                heights = [0] * places
                for height, told in ((0, 0), (100, 0), (101, -1), (400, -1), (LARGEST, -1)):
                    heights[place] = height
                    with self.subTest(places=places, place=place, height=height):
                        self.assertEqual(answered(begins(places), cam(*heights)), [[0], [told]])

    def test_one_too_few_one_too_many_none_and_twelve_are_refused(self):
        for places in range(2, 9):
            for length in (places - 1, places + 1, 0, 12):
                with self.subTest(places=places, length=length):
                    self.assertEqual(
                        answered(begins(places), cam(*[1] * length), cam(*[1] * places)),
                        [[0], [-1], [0]])

    def test_a_fifth_cam_is_refused(self):
        self.assertEqual(
            answered(begins(2), *[cam(1, 2)] * 4, cam(1, 2), cam(100, 0)),
            [[0], [0], [1], [2], [3], [-5], [-5]])

    def test_of_a_fifth_cam_with_a_wrong_list_the_list_is_told(self):
        for heights in ((), (1,), (1, 2, 3), (1, 101), (101, 1), (1,) * 12):
            with self.subTest(heights=heights):
                self.assertEqual(
                    answered(*[cam(1, 2)] * 4, cam(*heights), cam(1, 2)),
                    [[0], [1], [2], [3], [-1], [-5]])

    def test_refused_it_takes_no_number(self):
        self.assertEqual(
            answered(cam(1, 2), cam(1, 101), cam(1, 2), cam(1), cam(1, 2), cam(), cam(1, 2),
                     cam(1, 2)),
            [[0], [-1], [1], [-1], [2], [-1], [3], [-5]])

    def test_a_wish_between_does_not_change_the_numbering(self):
        self.assertEqual(
            answered(cam(1, 2), wish(1, 2), cam(1, 2), wish(1, 2, 3), cam(1, 2)),
            [[0], [0], [1], [-1], [2]])


if __name__ == "__main__":
    unittest.main()
