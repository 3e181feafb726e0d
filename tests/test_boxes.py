"""The call boxes: how many there are, and their numbers."""

import unittest

from tests.calls import ask, boxes, crate, fall, ghost, gone, last, lift, move, wall


class Boxes(unittest.TestCase):
    def test_none(self):
        self.assertEqual(last(boxes()), [0])

    def test_some_hard_or_not(self):
        self.assertEqual(last(wall(5, 5), boxes()), [1, 0])
        self.assertEqual(last(wall(5, 5), ghost(5, 5), lift(0, 0), crate(0, 1), boxes()), [4, 0, 1, 2, 3])

    def test_sixteen(self):
        made = [ghost(0, 0) for number in range(16)]
        self.assertEqual(last(*made, ghost(0, 0), boxes()), [16] + list(range(16)))

    def test_a_refused_one_is_not_there(self):
        self.assertEqual(ask(crate(0, 0), crate(0, 0), crate(0, 1, 51), boxes())[1:], [[-4], [-1], [1, 0]])

    def test_behind_gone(self):
        calls = [crate(0, 0), crate(2, 0), crate(4, 0), gone(1)]
        self.assertEqual(last(*calls, boxes()), [2, 0, 2])
        self.assertEqual(last(*calls, crate(2, 0), boxes()), [3, 0, 2, 3])
        self.assertEqual(last(*calls, gone(0), gone(2), boxes()), [0])
        self.assertEqual(last(*calls, gone(1), boxes()), [2, 0, 2])

    def test_in_order_of_numbers_behind_move_and_fall(self):
        calls = [crate(0, 0), crate(2, 9), lift(4, 4), move(2, -3, 5), fall(7)]
        self.assertEqual(last(*calls, boxes()), [3, 0, 1, 2])


if __name__ == "__main__":
    unittest.main()
