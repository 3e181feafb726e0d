"""Promise 3: free."""

import unittest

from tests.calls import ask, box, crate, fall, free, get, ghost, gone, last, lift, move, wall


class FreePlaces(unittest.TestCase):
    def test_a_free_place(self):
        self.assertEqual(last(crate(0, 0), free(0, 5, 5)), [0])
        self.assertEqual(last(crate(0, 0), wall(5, 6), free(0, 5, 5)), [0])

    def test_one_has_it(self):
        for other in [wall(5, 5), crate(5, 5), lift(5, 5)]:
            self.assertEqual(last(crate(0, 0), other, free(0, 5, 5)), [1, 1])

    def test_several_have_it_by_numbers(self):
        calls = [wall(7, 5), crate(6, 6), wall(20, 20, 3, 3), lift(5, 5), wall(8, 5)]
        self.assertEqual(last(*calls, free(2, 5, 5)), [3, 0, 1, 3])
        self.assertEqual(last(*calls, free(2, 6, 4)), [3, 0, 1, 4])

    def test_at_each_edge_and_right_beside(self):
        calls = [crate(50, 50, 2, 3), wall(0, 0, 4, 5)]
        for across, down in [(-1, -2), (3, -2), (-1, 4), (3, 4), (1, 1)]:
            self.assertEqual(last(*calls, free(0, across, down)), [1, 1], (across, down))
        for across, down in [(-2, 0), (4, 0), (0, -3), (0, 5), (-2, -3), (4, 5)]:
            self.assertEqual(last(*calls, free(0, across, down)), [0], (across, down))

    def test_a_large_box_around_a_small_one(self):
        self.assertEqual(last(crate(50, 50, 9, 9), wall(4, 4), free(0, 0, 0)), [1, 1])
        self.assertEqual(last(crate(50, 50), wall(0, 0, 9, 9), free(0, 4, 4)), [1, 1])

    def test_what_is_between_does_not_matter(self):
        self.assertEqual(last(crate(0, 0), wall(2, -9, 1, 19), free(0, 5, 0)), [0])

    def test_its_own_place(self):
        for pushed in [0, 1]:
            self.assertEqual(last(box(3, -4, 2, 2, 1, pushed, 1), crate(3, -5), free(0, 3, -4)), [0])

    def test_it_is_not_in_its_own_way(self):
        self.assertEqual(last(crate(0, 0, 3, 3), free(0, 1, 1)), [0])
        self.assertEqual(last(crate(0, 0, 3, 3), wall(3, 0), free(0, 1, 0)), [1, 1])


class FreeNotHard(unittest.TestCase):
    def test_one_that_is_not_hard_has_nothing_in_its_way(self):
        for pushed in [0, 1]:
            for carries in [0, 1]:
                calls = [ghost(0, 0, 3, 3, pushed, carries), wall(5, 5), crate(6, 5)]
                self.assertEqual(last(*calls, free(0, 5, 5)), [0])

    def test_what_is_not_hard_is_in_no_way(self):
        calls = [crate(0, 0, 2, 2), ghost(5, 5), ghost(0, 0, 9, 9, 1, 1)]
        self.assertEqual(last(*calls, free(0, 5, 5)), [0])
        self.assertEqual(last(*calls, wall(6, 6), free(0, 5, 5)), [1, 3])


class FreeChangesNothing(unittest.TestCase):
    def test_the_box_stays(self):
        given = ask(crate(0, 0), wall(5, 5), free(0, 5, 5), free(0, 9, 9), get(0), free(1, 0, 0))
        self.assertEqual(given[2:], [[1, 1], [0], [0, 0, 0, 1, 1, 1, 1, 0], [1, 0]])

    def test_behind_move_fall_and_gone(self):
        calls = [crate(0, 0), crate(5, 0)]
        self.assertEqual(last(*calls, move(1, 1, 0), free(0, 5, 0)), [0])
        self.assertEqual(last(*calls, move(1, 1, 0), free(0, 6, 0)), [1, 1])
        self.assertEqual(last(*calls, fall(2), free(0, 5, 2)), [1, 1])
        self.assertEqual(last(*calls, gone(1), free(0, 5, 0)), [0])
        self.assertEqual(last(*calls, move(0, 1, 1), free(0, 5, 0)), [1, 1])


class FreeRefusals(unittest.TestCase):
    def test_no_such_box(self):
        self.assertEqual(last(free(0, 0, 0)), [-2])
        for number in [1, 4294967295]:
            self.assertEqual(last(crate(0, 0), free(number, 5, 5)), [-2])
        self.assertEqual(last(crate(0, 0), gone(0), free(0, 5, 5)), [-2])

    def test_places_at_the_edge(self):
        for across, down in [(1000, 0), (-1000, 0), (0, 1000), (0, -1000), (1000, 1000), (-1000, -1000)]:
            self.assertEqual(last(crate(5, 5, 50, 50), free(0, across, down)), [0])
            self.assertEqual(last(crate(5, 5), wall(across, down), free(0, across, down)), [1, 1])

    def test_places_beyond(self):
        far = 2147483647
        for across, down in [(1001, 0), (-1001, 0), (0, 1001), (0, -1001), (far, 0), (0, far), (-far, 0), (0, -far)]:
            for hard in [0, 1]:
                self.assertEqual(last(box(5, 5, hard=hard), free(0, across, down)), [-1], (across, down))

    def test_places_in_common_beyond_the_edge(self):
        self.assertEqual(last(crate(5, 5, 50, 1), wall(1000, -30, 50, 30), free(0, 1000, -1)), [1, 1])

    def test_no_such_box_told_before_a_place_beyond(self):
        self.assertEqual(last(free(0, 1001, 0)), [-2])
        self.assertEqual(last(crate(0, 0), free(1, 0, -1001)), [-2])
        self.assertEqual(last(crate(0, 0), gone(0), free(0, 2147483647, 0)), [-2])


if __name__ == "__main__":
    unittest.main()
