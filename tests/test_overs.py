"""The call overs: which pairs of boxes have a place in common."""

import unittest

from tests.calls import ask, crate, fall, ghost, gone, last, lift, move, overs, wall


class Overs(unittest.TestCase):
    def test_no_boxes_and_one(self):
        self.assertEqual(last(overs()), [0])
        self.assertEqual(last(ghost(0, 0, 5, 5), overs()), [0])

    def test_one_or_both_not_hard(self):
        self.assertEqual(last(wall(0, 0), ghost(0, 0), overs()), [1, 0, 1])
        self.assertEqual(last(ghost(0, 0), crate(0, 0), overs()), [1, 0, 1])
        self.assertEqual(last(ghost(0, 0), ghost(0, 0), overs()), [1, 0, 1])

    def test_two_hard_ones_never_have_one(self):
        self.assertEqual(ask(wall(0, 0, 3, 3), crate(2, 2), lift(3, 0), overs())[1:], [[-4], [1], [0]])

    def test_at_each_corner(self):
        for across, down in [(-1, -1), (2, -1), (-1, 2), (2, 2)]:
            self.assertEqual(last(wall(0, 0, 3, 3), ghost(across, down, 2, 2), overs()), [1, 0, 1])

    def test_two_that_only_touch(self):
        for across, down in [(3, 0), (-2, 0), (0, 3), (0, -2), (3, 3), (-2, -2), (3, -2), (-2, 3)]:
            for first in [wall(0, 0, 3, 3), ghost(0, 0, 3, 3)]:
                self.assertEqual(last(first, ghost(across, down, 2, 2), overs()), [0], (across, down))

    def test_one_within_another_and_a_cross(self):
        self.assertEqual(last(ghost(0, 0, 9, 9), wall(4, 4), overs()), [1, 0, 1])
        self.assertEqual(last(wall(4, 4), ghost(0, 0, 9, 9), overs()), [1, 0, 1])
        self.assertEqual(last(wall(0, 4, 9, 1), ghost(4, 0, 1, 9), overs()), [1, 0, 1])

    def test_several_pairs_rising(self):
        calls = [crate(9, 0), ghost(0, 0, 20), crate(3, 0), ghost(3, 0, 7), crate(30, 0)]
        self.assertEqual(last(*calls, overs()), [5, 0, 1, 0, 3, 1, 2, 1, 3, 2, 3])

    def test_all_sixteen_at_one_place(self):
        pairs = [(lower, upper) for lower in range(16) for upper in range(lower + 1, 16)]
        told = [number for pair in pairs for number in pair]
        self.assertEqual(last(*[ghost(5, -5) for number in range(16)], overs()), [120] + told)

    def test_numbers_of_two_digits_rise_as_numbers(self):
        calls = [ghost(100 * number, 0) for number in range(9)] + [gone(number) for number in range(9)]
        calls += [ghost(0, 0), crate(0, 0), ghost(0, 0)]
        self.assertEqual(last(*calls, overs()), [3, 9, 10, 9, 11, 10, 11])

    def test_behind_gone(self):
        calls = [ghost(0, 0), crate(0, 0), ghost(0, 0)]
        self.assertEqual(last(*calls, gone(1), overs()), [1, 0, 2])
        self.assertEqual(last(*calls, gone(1), ghost(0, 0), overs()), [3, 0, 2, 0, 3, 2, 3])
        self.assertEqual(last(*calls, gone(1), gone(2), overs()), [0])

    def test_behind_move_and_fall(self):
        calls = [ghost(0, 0), crate(3, 0)]
        self.assertEqual(last(*calls, move(0, 2, 0), overs()), [0])
        self.assertEqual(last(*calls, move(0, 3, 0), overs()), [1, 0, 1])
        self.assertEqual(last(*calls, move(0, 4, 0), overs()), [0])
        self.assertEqual(last(*calls, move(0, 3, 0), fall(1), overs()), [0])
        self.assertEqual(last(*calls, move(0, 3, 0), move(1, 0, 9), overs()), [0])

    def test_behind_a_refused_move(self):
        self.assertEqual(last(ghost(1000, 0), crate(1000, 0), move(0, 1, 0), overs()), [1, 0, 1])


if __name__ == "__main__":
    unittest.main()
