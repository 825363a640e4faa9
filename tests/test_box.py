"""What is kept in the box, where no call answers it."""

import unittest

from cambox.box import Box


def kept(box):
    return (box.places, [list(cam) for cam in box.cams], list(box.wished))


class BoxTest(unittest.TestCase):
    def test_a_new_box(self):
        self.assertEqual(kept(Box()), (2, [], [0, 0]))

    def test_begins_empties_it_and_wishes_0_at_each_place(self):
        box = Box()
        box.cam([1, 2])
        box.wish([3, 4])
        self.assertEqual(box.begins(5), [0])
        self.assertEqual(kept(box), (5, [], [0, 0, 0, 0, 0]))

    def test_begins_with_the_same_places_forgets_the_wish(self):
        box = Box()
        box.wish([3, 4])
        box.begins(2)
        self.assertEqual(kept(box), (2, [], [0, 0]))

    def test_cams_are_kept_in_order(self):
        box = Box()
        box.cam([1, 2])
        box.cam([0, 100])
        self.assertEqual(kept(box), (2, [[1, 2], [0, 100]], [0, 0]))

    def test_the_last_wish_is_kept(self):
        box = Box()
        box.wish([3, 4])
        box.wish([400, 0])
        self.assertEqual(kept(box), (2, [], [400, 0]))

    def test_a_refusal_changes_nothing(self):
        box = Box()
        box.begins(3)
        for height in range(4):
            box.cam([height, 0, 0])
        box.wish([5, 6, 7])
        before = kept(box)
        self.assertEqual(box.begins(1), [-1])
        self.assertEqual(box.begins(9), [-1])
        self.assertEqual(box.cam([1, 2]), [-1])
        self.assertEqual(box.cam([1, 2, 101]), [-1])
        self.assertEqual(box.cam([1, 2, 3]), [-5])
        self.assertEqual(box.wish([1, 2]), [-1])
        self.assertEqual(box.wish([1, 2, 401]), [-1])
        self.assertEqual(kept(box), before)

    def test_boxes_share_nothing(self):
        one = Box()
        one.cam([1, 2])
        one.wish([3, 4])
        self.assertEqual(kept(Box()), (2, [], [0, 0]))


if __name__ == "__main__":
    unittest.main()
