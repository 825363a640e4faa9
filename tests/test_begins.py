import unittest

from tests.spelling import LARGEST, answered, begins, cam, wish


class BeginsTest(unittest.TestCase):
    def test_two_to_eight_places_are_answered_0(self):
        for places in range(2, 9):
            with self.subTest(places=places):
                self.assertEqual(answered(begins(places)), [[0]])

    def test_other_places_are_refused(self):
        for places in (0, 1, 9, 10, 255, 256, 258, 65538, 2147483648, LARGEST):
            with self.subTest(places=places):
                self.assertEqual(answered(begins(places)), [[-1]])

    def test_it_sets_how_many_heights_cam_and_wish_take(self):
        for places in range(2, 9):
            for length in range(13):
                heights = [7] * length
                told = -1 if length != places else 0
                with self.subTest(places=places, length=length):
                    self.assertEqual(
                        answered(begins(places), cam(*heights), wish(*heights)),
                        [[0], [told], [told]])

    def test_it_empties_the_box(self):
        self.assertEqual(
            answered(begins(3), cam(1, 2, 3), cam(4, 5, 6), begins(3), cam(7, 8, 9), cam(1, 1, 1)),
            [[0], [0], [1], [0], [0], [1]])

    def test_it_empties_a_full_box(self):
        four = [cam(1, 2)] * 4
        self.assertEqual(
            answered(begins(2), *four, cam(1, 2), begins(2), *four, cam(1, 2)),
            [[0], [0], [1], [2], [3], [-5], [0], [0], [1], [2], [3], [-5]])

    def test_refused_it_changes_nothing(self):
        for places in (0, 1, 9, LARGEST):
            with self.subTest(places=places):
                self.assertEqual(
                    answered(begins(3), cam(1, 2, 3), begins(places), cam(1, 2, 3),
                             cam(1, 2), wish(1, 2, 3), wish(1, 2)),
                    [[0], [0], [-1], [1], [-1], [0], [-1]])

    def test_refused_ahead_of_all_else_it_leaves_two_places(self):
        self.assertEqual(answered(begins(9), cam(1, 2), cam(1, 2, 3)), [[-1], [0], [-1]])


if __name__ == "__main__":
    unittest.main()
