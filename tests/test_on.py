"""Promise 1: on."""

import unittest

from tests.calls import ask, boxes, crate, fall, ghost, gone, last, lift, move, on, wall


class OnBelow(unittest.TestCase):
    def test_on_none(self):
        self.assertEqual(last(crate(0, 0), on(0)), [0, 0])

    def test_on_one(self):
        for lower in [wall(0, 1), crate(0, 1), lift(0, 1)]:
            self.assertEqual(last(lower, crate(0, 0), on(1)), [1, 0, 0])

    def test_on_two_by_numbers(self):
        self.assertEqual(last(wall(2, 1), crate(0, 0, 3), crate(0, 1), on(1)), [2, 0, 2, 0])

    def test_a_column_of_both(self):
        for across in [-1, 0, 3, 4]:
            self.assertEqual(last(wall(0, 5, 5), crate(across, 3, 2, 2), on(1)), [1, 0, 0], across)
        for across in [-3, -2, 5, 6]:
            self.assertEqual(last(wall(0, 5, 5), crate(across, 3, 2, 2), on(1)), [0, 0], across)

    def test_right_above_alone(self):
        self.assertEqual(last(wall(0, 5, 5), crate(0, 2, 2, 2), on(1)), [0, 0])
        self.assertEqual(last(wall(0, 5, 5, 3), crate(5, 4, 2, 2), on(1)), [0, 0])

    def test_right_below_is_not_on(self):
        self.assertEqual(last(wall(0, 0), crate(0, 1), on(1)), [0, 1, 0])


class OnAbove(unittest.TestCase):
    def test_one_stands_on_it(self):
        for upper in [wall(0, 0), crate(0, 0), lift(0, 0)]:
            self.assertEqual(last(upper, crate(0, 1), on(1)), [0, 1, 0])

    def test_two_stand_on_it_by_numbers(self):
        self.assertEqual(last(crate(2, 0), wall(0, 1, 3), crate(0, -4, 1, 5), on(1)), [0, 2, 0, 2])

    def test_what_stands_on_those_is_not_told(self):
        self.assertEqual(last(lift(0, 0), lift(0, -1), crate(0, -2), on(0)), [0, 1, 1])
        self.assertEqual(last(lift(0, 0), lift(0, -1), crate(0, -2), on(2)), [1, 1, 0])

    def test_both_at_once(self):
        calls = [crate(0, -1), wall(0, 1), crate(0, 0, 3), wall(2, 1), crate(2, -1), crate(1, -2)]
        self.assertEqual(last(*calls, on(2)), [2, 1, 3, 2, 0, 4])
        self.assertEqual(last(*calls, on(0)), [1, 2, 0])
        self.assertEqual(last(*calls, on(3)), [0, 1, 2])

    def test_carrying_and_pushing_do_not_matter(self):
        self.assertEqual(last(wall(0, 0), wall(0, 1), wall(0, 2), on(1)), [1, 2, 1, 0])


class OnNotHard(unittest.TestCase):
    def test_as_the_one_asked(self):
        for pushed in [0, 1]:
            for carries in [0, 1]:
                calls = [crate(0, -1), ghost(0, 0, 1, 1, pushed, carries), wall(0, 1)]
                self.assertEqual(last(*calls, on(1)), [0, 0])

    def test_as_the_other(self):
        for pushed in [0, 1]:
            for carries in [0, 1]:
                calls = [ghost(0, -1, 1, 1, pushed, carries), crate(0, 0), ghost(0, 1, 1, 1, pushed, carries)]
                self.assertEqual(last(*calls, on(1)), [0, 0])
                self.assertEqual(last(*calls, wall(0, 1), crate(0, -1), on(1)), [1, 3, 1, 4])

    def test_both(self):
        self.assertEqual(ask(ghost(0, 0), ghost(0, 1), on(0), on(1))[2:], [[0, 0], [0, 0]])


class OnBehindOthers(unittest.TestCase):
    def test_behind_move_fall_and_gone(self):
        calls = [wall(0, 5), crate(0, 0)]
        self.assertEqual(last(*calls, on(1)), [0, 0])
        self.assertEqual(last(*calls, fall(60), on(1)), [1, 0, 0])
        self.assertEqual(last(*calls, move(1, 0, 4), on(0)), [0, 1, 1])
        self.assertEqual(last(*calls, fall(60), move(1, 1, 0), on(0)), [0, 0])
        self.assertEqual(last(*calls, fall(60), gone(0), on(1)), [0, 0])

    def test_no_such_box(self):
        self.assertEqual(last(on(0)), [-2])
        for number in [1, 16, 4294967295]:
            self.assertEqual(ask(crate(0, 0), on(number), boxes())[1:], [[-2], [1, 0]])
        self.assertEqual(last(crate(0, 0), crate(0, 1), gone(0), on(0)), [-2])
        self.assertEqual(last(ghost(0, 0), gone(0), on(0)), [-2])


if __name__ == "__main__":
    unittest.main()
