"""Promise 3: ray."""

import unittest

from tests.calls import ask, box, boxes, crate, fall, get, ghost, gone, last, lift, move, ray, wall

WAYS = [(1, 0), (-1, 0), (0, 1), (0, -1), (1, 1), (1, -1), (-1, 1), (-1, -1)]


class RayWays(unittest.TestCase):
    def test_each_of_the_eight_ways(self):
        for over, under in WAYS:
            made = wall(20 + 5 * over, 30 + 5 * under)
            self.assertEqual(last(made, ray(20, 30, over, under)), [4, 1, 0], (over, under))

    def test_a_box_that_lies_another_way_is_not_met(self):
        for way in WAYS:
            made = [wall(5 * other[0], 5 * other[1]) for other in WAYS if other != way]
            self.assertEqual(last(*made, ray(0, 0, *way)), [-6], way)

    def test_the_nearest_one_is_told(self):
        for over, under in WAYS:
            made = [wall(9 * over, 9 * under), crate(4 * over, 4 * under), crate(6 * over, 6 * under)]
            self.assertEqual(last(*made, ray(0, 0, over, under)), [3, 1, 1], (over, under))

    def test_a_slanting_ray_goes_between_two_that_touch_at_a_corner(self):
        self.assertEqual(last(wall(1, 0), wall(0, 1), ray(0, 0, 1, 1)), [-6])
        self.assertEqual(last(wall(1, 0), wall(0, 1), wall(3, 3), ray(0, 0, 1, 1)), [2, 1, 2])

    def test_the_side_of_a_large_box(self):
        made = wall(10, 10, 5, 7)
        self.assertEqual(last(made, ray(0, 16, 1, 0)), [9, 1, 0])
        self.assertEqual(last(made, ray(0, 17, 1, 0)), [-6])
        self.assertEqual(last(made, ray(0, 9, 1, 0)), [-6])
        self.assertEqual(last(made, ray(20, 10, -1, 0)), [5, 1, 0])
        self.assertEqual(last(made, ray(14, 0, 0, 1)), [9, 1, 0])
        self.assertEqual(last(made, ray(15, 0, 0, 1)), [-6])
        self.assertEqual(last(made, ray(10, 20, 0, -1)), [3, 1, 0])


class RayPlaces(unittest.TestCase):
    def test_the_first_place_behind_the_one_told(self):
        for over, under in WAYS:
            self.assertEqual(last(wall(over, under), ray(0, 0, over, under, 1)), [0, 1, 0], (over, under))

    def test_the_place_told_is_not_asked(self):
        for over, under in WAYS:
            self.assertEqual(last(wall(0, 0), ray(0, 0, over, under)), [-6], (over, under))
            self.assertEqual(last(wall(0, 0), wall(2 * over, 2 * under), ray(0, 0, over, under)), [1, 1, 1])

    def test_the_last_place_and_one_farther(self):
        for over, under in WAYS:
            made = wall(7 * over, 7 * under)
            self.assertEqual(last(made, ray(0, 0, over, under, 7)), [6, 1, 0], (over, under))
            self.assertEqual(last(made, ray(0, 0, over, under, 6)), [-6], (over, under))

    def test_a_ray_that_begins_inside_a_hard_box(self):
        for over, under in WAYS:
            self.assertEqual(last(wall(-1, -1, 3, 3), ray(0, 0, over, under)), [0, 1, 0], (over, under))
        self.assertEqual(last(wall(-1, -1, 3, 3), ray(1, 0, 1, 0)), [-6])
        self.assertEqual(last(wall(-1, -1, 3, 3), wall(4, 0), ray(1, 0, 1, 0)), [2, 1, 1])

    def test_0_places(self):
        self.assertEqual(last(wall(1, 0), ray(0, 0, 1, 0, 0)), [-6])
        self.assertEqual(last(wall(0, 0, 3, 3), ray(1, 1, 1, 0, 0)), [-6])

    def test_300_and_301_places(self):
        for over, under in WAYS:
            near, far = wall(300 * over, 300 * under), wall(301 * over, 301 * under)
            self.assertEqual(last(near, ray(0, 0, over, under, 300)), [299, 1, 0], (over, under))
            self.assertEqual(last(far, ray(0, 0, over, under, 300)), [-6], (over, under))
            for most in [301, 4294967295]:
                self.assertEqual(last(near, ray(0, 0, over, under, most)), [-1], (over, under))


class RayBoxes(unittest.TestCase):
    def test_no_boxes(self):
        self.assertEqual(last(ray(0, 0, 1, 0)), [-6])

    def test_what_is_not_hard_is_gone_through(self):
        for over, under in WAYS:
            made = [ghost(3 * over, 3 * under, pushed=1, carries=1), ghost(-20, -20, 40, 40)]
            self.assertEqual(last(*made, ray(0, 0, over, under)), [-6])
            self.assertEqual(last(*made, wall(5 * over, 5 * under), ray(0, 0, over, under)), [4, 1, 2])

    def test_one_that_is_not_hard_at_the_same_place_is_not_told(self):
        self.assertEqual(last(ghost(4, 0), crate(4, 0), ghost(4, 0), ray(0, 0, 1, 0)), [3, 1, 1])

    def test_every_hard_one_is_met(self):
        for pushed in [0, 1]:
            for carries in [0, 1]:
                self.assertEqual(last(box(3, 0, 1, 1, 1, pushed, carries), ray(0, 0, 1, 0)), [2, 1, 0])

    def test_behind_move_fall_and_gone(self):
        made = [crate(5, 0), lift(9, 0)]
        self.assertEqual(last(*made, move(0, -2, 0), ray(0, 0, 1, 0)), [2, 1, 0])
        self.assertEqual(last(*made, fall(1), ray(0, 0, 1, 0)), [8, 1, 1])
        self.assertEqual(last(*made, gone(0), ray(0, 0, 1, 0)), [8, 1, 1])
        self.assertEqual(last(*made, gone(0), gone(1), ray(0, 0, 1, 0)), [-6])


class RayRefusals(unittest.TestCase):
    def test_over_and_under(self):
        made = wall(-9, -9)
        for over in [-2, -1, 0, 1, 2, 2147483647, -2147483647]:
            for under in [-2, -1, 0, 1, 2, 2147483647, -2147483647]:
                answer = [-6] if (over, under) in WAYS else [-1]
                self.assertEqual(last(made, ray(0, 5, over, under)), answer, (over, under))

    def test_both_0_is_refused_inside_a_box_too(self):
        self.assertEqual(last(wall(0, 0), ray(0, 0, 0, 0)), [-1])
        self.assertEqual(last(wall(0, 0), ray(0, 0, 0, 0, 0)), [-1])

    def test_places_at_the_edge(self):
        for across, down in [(1000, 0), (-1000, 0), (0, 1000), (0, -1000), (1000, -1000), (-1000, 1000)]:
            over = -1 if across > 0 else 1
            under = -1 if down > 0 else 1
            made = wall(across + 2 * over, down + 2 * under)
            self.assertEqual(last(made, ray(across, down, over, under)), [1, 1, 0], (across, down))

    def test_places_beyond(self):
        far = 2147483647
        for across, down in [(1001, 0), (-1001, 0), (0, 1001), (0, -1001), (far, 0), (0, far), (-far, 0), (0, -far)]:
            over = -1 if across > 0 else 1
            under = -1 if down > 0 else 1
            made = [wall(999, -1, 2, 3), wall(-1000, -1, 2, 3), wall(-1, 999, 3, 2), wall(-1, -1000, 3, 2)]
            for way in [(over, 0), (0, under), (over, under)]:
                self.assertEqual(last(*made, ray(across, down, *way)), [-1], (across, down))

    def test_a_ray_that_goes_on_beyond(self):
        made = wall(1000, 1000, 50, 50)
        self.assertEqual(last(made, ray(990, 1000, 1, 1)), [9, 1, 0])
        self.assertEqual(last(made, ray(1000, 1000, 1, 0)), [0, 1, 0])
        self.assertEqual(last(made, ray(1000, 999, 1, 1)), [0, 1, 0])
        # The first places that it has in common with these are beyond 1000.
        self.assertEqual(last(made, ray(1000, 990, 1, 1)), [9, 1, 0])
        self.assertEqual(last(made, ray(1000, 951, 1, 1)), [48, 1, 0])
        self.assertEqual(last(made, ray(1000, 950, 1, 1)), [-6])
        for across, down, over, under in [(1000, 0, 1, 0), (-1000, 0, -1, 0), (0, 1000, 0, 1), (0, -1000, 0, -1)]:
            self.assertEqual(last(wall(across, down), ray(across, down, over, under, 300)), [-6])

    def test_told_out_of_range_before_no_such_place(self):
        for wrong in [ray(1001, 0, 1, 0), ray(0, -1001, 1, 0), ray(0, 0, 2, 0), ray(0, 0, 0, -2), ray(0, 0, 0, 0),
                      ray(0, 0, 1, 0, 301), ray(1001, 0, 2, 2, 301), ray(1001, 0, 1, 0, 0), ray(0, 0, 0, 0, 0)]:
            self.assertEqual(last(wrong), [-1], wrong)
            self.assertEqual(last(ghost(1, 0), wrong), [-1], wrong)

    def test_all_is_as_it_was(self):
        given = ask(crate(1, 0), ray(0, 0, 0, 0), ray(9, 9, 1, 0), ray(0, 0, 1, 0), boxes(), get(0))
        self.assertEqual(given, [[0], [-1], [-6], [0, 1, 0], [1, 0], [0, 1, 0, 1, 1, 1, 1, 0]])


if __name__ == "__main__":
    unittest.main()
