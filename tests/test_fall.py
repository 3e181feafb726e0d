"""Promise 2: fall."""

import unittest

from tests.calls import ask, box, crate, fall, get, ghost, last, lift, places, wall


class FallRange(unittest.TestCase):
    def test_0_60_and_61_places(self):
        self.assertEqual(last(crate(0, 0), fall(0)), [0])
        self.assertEqual(last(crate(0, 0), fall(1)), [1, 0, 1])
        self.assertEqual(last(crate(0, 0), fall(60)), [1, 0, 60])
        for most in [61, 4294967295]:
            self.assertEqual(ask(crate(0, 0), fall(most), get(0))[1:], [[-1], [0, 0, 0, 1, 1, 1, 1, 0]])

    def test_no_boxes(self):
        self.assertEqual(last(fall(60)), [0])
        self.assertEqual(last(fall(61)), [-1])

    def test_to_the_edge_and_beyond(self):
        self.assertEqual(last(crate(0, 990, 1, 50), fall(10)), [1, 0, 10])
        calls = [crate(0, 990), crate(5, 0), fall(11)]
        self.assertEqual(last(*calls), [-5])
        self.assertEqual(places(*calls, count=2), [(0, 990), (5, 0)])

    def test_too_far_told_before_beyond(self):
        self.assertEqual(last(crate(0, 990), fall(61)), [-1])

    def test_one_that_lies_at_the_edge_is_not_beyond(self):
        self.assertEqual(last(wall(0, 1000), crate(0, 990), fall(60)), [1, 1, 9])


class FallWho(unittest.TestCase):
    def test_place_behind_a_fall(self):
        self.assertEqual(last(crate(3, 4, 2, 5), fall(7), get(0)), [0, 3, 11, 2, 5, 1, 1, 0])

    def test_what_is_not_hard_or_can_not_be_pushed_stays(self):
        calls = [ghost(0, 0, pushed=1), wall(2, 0), ghost(4, 0), crate(6, 0), fall(3)]
        self.assertEqual(last(*calls), [1, 3, 3])
        self.assertEqual(places(*calls, count=4), [(0, 0), (2, 0), (4, 0), (6, 3)])

    def test_onto_a_wall_and_through_what_is_not_hard(self):
        self.assertEqual(last(crate(0, 0), ghost(0, 1), wall(0, 5), fall(60)), [1, 0, 4])

    def test_one_that_lies_did_not_fall(self):
        self.assertEqual(last(crate(0, 0), wall(0, 1), crate(2, 0), fall(2)), [1, 2, 2])

    def test_right_beside_a_wall(self):
        self.assertEqual(last(crate(1, 0, 2, 1), wall(0, 1), wall(3, 1), fall(2)), [1, 0, 2])

    def test_pushes_none(self):
        calls = [crate(0, 0, 2, 1), wall(1, 3), lift(0, 2, 1, 1, pushed=1), fall(9)]
        self.assertEqual(last(*calls), [2, 2, 9, 0, 2])

    def test_what_can_not_be_pushed_is_not_carried_down(self):
        calls = [lift(0, 0, pushed=1), wall(0, -1), fall(3)]
        self.assertEqual(last(*calls), [1, 0, 3])


class FallOrder(unittest.TestCase):
    def test_the_lowest_row_first(self):
        calls = [crate(0, 0), crate(2, 2), crate(4, 1), fall(1)]
        self.assertEqual(last(*calls), [3, 1, 1, 2, 1, 0, 1])

    def test_by_the_lowest_row_and_not_by_the_place(self):
        calls = [crate(0, 3), crate(2, 0, 1, 5), fall(1)]
        self.assertEqual(last(*calls), [2, 1, 1, 0, 1])

    def test_as_low_ones_by_numbers(self):
        calls = [crate(4, 0), crate(2, -1, 1, 2), crate(0, 0), fall(1)]
        self.assertEqual(last(*calls), [3, 0, 1, 1, 1, 2, 1])

    def test_the_order_is_that_ahead_of_the_fall(self):
        # Box 2 lies soonest, so that the others end lower, but it was the lowest ahead of the fall.
        calls = [wall(0, 6), crate(2, 0), crate(0, 3), crate(4, 1), fall(9)]
        self.assertEqual(last(*calls), [3, 2, 2, 3, 9, 1, 9])

    def test_a_pile_falls_whole(self):
        calls = [crate(0, 0), crate(0, -2), crate(0, -1), wall(0, 5), fall(60)]
        self.assertEqual(last(*calls), [3, 0, 4, 2, 4, 1, 4])
        self.assertEqual(places(*calls, count=3), [(0, 4), (0, 2), (0, 3)])

    def test_a_pile_with_room_between(self):
        calls = [crate(0, -10), crate(0, 0), wall(0, 5), fall(60)]
        self.assertEqual(last(*calls), [2, 1, 4, 0, 13])

    def test_a_pile_stopped_by_how_many_places(self):
        calls = [crate(0, -3), crate(0, 0), wall(0, 2), fall(3)]
        self.assertEqual(last(*calls), [2, 1, 1, 0, 3])

    def test_an_arch_lies_on_the_higher_one(self):
        calls = [box(0, 0, 3, 1), wall(0, 8), crate(2, 4), wall(2, 7), fall(60)]
        self.assertEqual(last(*calls), [2, 2, 2, 0, 5])


if __name__ == "__main__":
    unittest.main()
