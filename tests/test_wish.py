import unittest

from tests.spelling import LARGEST, answered, begins, cam, wish


class WishTest(unittest.TestCase):
    def test_a_height_for_each_place_is_answered_0(self):
        self.assertEqual(answered(begins(3), wish(400, 0, 7)), [[0], [0]])

    def test_ahead_of_any_begins_there_are_two_places(self):
        self.assertEqual(answered(wish(3, 4)), [[0]])
        for heights in ((), (3,), (3, 4, 5), (1,) * 8):
            with self.subTest(heights=heights):
                self.assertEqual(answered(wish(*heights)), [[-1]])

    def test_a_height_of_400_is_taken_and_one_of_401_refused_at_each_place(self):
        for places in range(2, 9):
            for place in range(places):
                heights = [0] * places
                for height, told in ((0, 0), (101, 0), (400, 0), (401, -1), (LARGEST, -1)):
                    heights[place] = height
                    with self.subTest(places=places, place=place, height=height):
                        self.assertEqual(answered(begins(places), wish(*heights)), [[0], [told]])

    def test_one_too_few_one_too_many_none_and_twelve_are_refused(self):
        for places in range(2, 9):
            for length in (places - 1, places + 1, 0, 12):
                with self.subTest(places=places, length=length):
                    self.assertEqual(
                        answered(begins(places), wish(*[1] * length), wish(*[1] * places)),
                        [[0], [-1], [0]])

    def test_it_may_be_wished_as_often_as_one_likes(self):
        self.assertEqual(answered(*[wish(1, 2), wish(3, 4)] * 10), [[0]] * 20)

    def test_it_may_be_wished_with_a_full_box(self):
        self.assertEqual(
            answered(*[cam(1, 2)] * 4, wish(400, 400), wish(401, 0), cam(1, 2)),
            [[0], [1], [2], [3], [0], [-1], [-5]])


if __name__ == "__main__":
    unittest.main()
