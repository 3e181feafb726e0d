"""Promise 3: within."""

import unittest

from tests.calls import crate, fall, ghost, gone, last, move, wall, within


class Within(unittest.TestCase):
    def test_no_boxes(self):
        self.assertEqual(last(within(0, 0)), [0])

    def test_one_place_at_each_edge_and_beside_it(self):
        made = wall(10, 20, 3, 4)
        for across, down in [(10, 20), (12, 20), (10, 23), (12, 23), (11, 21)]:
            self.assertEqual(last(made, within(across, down)), [1, 0])
        for across, down in [(9, 20), (13, 20), (10, 19), (10, 24), (9, 19), (13, 24)]:
            self.assertEqual(last(made, within(across, down)), [0])

    def test_a_rectangle_that_touches_at_its_corner(self):
        made = wall(10, 20, 3, 4)
        for across, down in [(6, 15), (12, 15), (6, 23), (12, 23)]:
            self.assertEqual(last(made, within(across, down, 5, 6)), [1, 0])
        for across, down in [(5, 15), (13, 15), (6, 14), (6, 24)]:
            self.assertEqual(last(made, within(across, down, 5, 6)), [0])

    def test_in_order_of_numbers_hard_or_not(self):
        calls = [wall(5, 5), ghost(0, 0, 9, 9), crate(0, 0), ghost(20, 0), crate(3, 0), gone(0)]
        self.assertEqual(last(*calls, within(-1, -1, 10, 10)), [3, 1, 2, 4])

    def test_a_rectangle_in_a_box_and_around_it(self):
        self.assertEqual(last(wall(0, 0, 9, 9), within(3, 3, 2, 2)), [1, 0])
        self.assertEqual(last(wall(3, 3, 2, 2), within(0, 0, 9, 9)), [1, 0])

    def test_a_cross(self):
        self.assertEqual(last(wall(0, 4, 9, 1), within(4, 0, 1, 9)), [1, 0])

    def test_behind_move_and_fall(self):
        calls = [crate(0, 0), move(0, 3, 0), fall(2)]
        self.assertEqual(last(*calls, within(3, 2)), [1, 0])
        self.assertEqual(last(*calls, within(0, 0)), [0])

    def test_sizes(self):
        made = [wall(999, 0), wall(0, 999), wall(1000, 0), wall(0, 1000)]
        self.assertEqual(last(*made, within(-1000, 0, 2000, 1)), [1, 0])
        self.assertEqual(last(*made, within(0, -1000, 1, 2000)), [1, 1])
        for size in [0, 2001, 4294967295]:
            self.assertEqual(last(*made, within(0, 0, size, 1)), [-1])
            self.assertEqual(last(*made, within(0, 0, 1, size)), [-1])

    def test_places(self):
        for across, down in [(1000, 0), (-1000, 0), (0, 1000), (0, -1000)]:
            self.assertEqual(last(wall(across, down), within(across, down)), [1, 0])
        for across, down in [(1001, 0), (-1001, 0), (0, 1001), (0, -1001), (2147483647, -2147483647)]:
            self.assertEqual(last(wall(1000, 1000, 50, 50), within(across, down)), [-1])

    def test_beyond_the_edge_by_its_size(self):
        self.assertEqual(last(wall(1000, 1000, 50, 50), within(999, 999, 2, 2)), [1, 0])


if __name__ == "__main__":
    unittest.main()
