"""Promise 1: box, gone and get."""

import unittest

from tests.calls import ask, box, crate, fall, get, ghost, gone, last, move, wall, within


def full_world():
    return [crate(2 * number, 0) for number in range(16)]


class BoxPlaces(unittest.TestCase):
    def test_first_number_is_0_and_they_rise(self):
        self.assertEqual(ask(crate(0, 0), crate(5, 0), ghost(0, 0)), [[0], [1], [2]])

    def test_places_at_the_edge(self):
        for across, down in [(-1000, 0), (1000, 0), (0, -1000), (0, 1000), (-1000, -1000), (1000, 1000)]:
            self.assertEqual(last(crate(across, down)), [0])

    def test_only_the_least_place_is_bounded(self):
        self.assertEqual(last(crate(1000, 1000, 50, 50)), [0])

    def test_places_beyond(self):
        for across, down in [(-1001, 0), (1001, 0), (0, -1001), (0, 1001), (2147483647, 0), (0, -2147483647)]:
            for hard in [0, 1]:
                self.assertEqual(last(box(across, down, hard=hard)), [-1])

    def test_sizes(self):
        for size in [1, 2, 49, 50]:
            self.assertEqual(last(crate(0, 0, size, 1)), [0])
            self.assertEqual(last(crate(0, 0, 1, size)), [0])
        for size in [0, 51, 4294967295]:
            self.assertEqual(last(crate(0, 0, size, 1)), [-1])
            self.assertEqual(last(crate(0, 0, 1, size)), [-1])


class BoxCount(unittest.TestCase):
    def test_the_sixteenth_and_the_seventeenth(self):
        given = ask(*full_world(), crate(100, 0), ghost(100, 0))
        self.assertEqual(given[:16], [[number] for number in range(16)])
        self.assertEqual(given[16:], [[-5], [-5]])

    def test_room_again_behind_gone(self):
        given = ask(*full_world(), gone(3), crate(6, 0), crate(100, 0))
        self.assertEqual(given[16:], [[15], [16], [-5]])


class BoxUponBox(unittest.TestCase):
    def test_hard_upon_hard(self):
        self.assertEqual(last(wall(0, 0, 3, 3), crate(2, 2)), [-4])
        self.assertEqual(last(wall(0, 0, 3, 3), crate(-1, -1, 2, 2)), [-4])
        self.assertEqual(last(crate(1, 1), wall(0, 0, 3, 3)), [-4])
        self.assertEqual(last(wall(0, 1, 3, 1), wall(1, 0, 1, 3)), [-4])

    def test_hard_right_beside_hard(self):
        for across, down in [(3, 0), (-1, 0), (0, 3), (0, -1), (3, 3), (-1, -1)]:
            self.assertEqual(last(wall(0, 0, 3, 3), crate(across, down)), [1])

    def test_hard_and_not_hard_have_places_in_common(self):
        self.assertEqual(last(ghost(0, 0, 3, 3), crate(1, 1)), [1])
        self.assertEqual(last(wall(0, 0, 3, 3), ghost(1, 1)), [1])
        self.assertEqual(last(ghost(0, 0, 3, 3), ghost(1, 1)), [1])

    def test_where_one_was_ahead_of_a_move(self):
        given = ask(crate(0, 0), move(0, 1, 0), crate(0, 0), crate(1, 0))
        self.assertEqual(given[2:], [[1], [-4]])

    def test_where_one_is_behind_a_fall(self):
        given = ask(crate(0, 0), fall(2), crate(0, 0), crate(0, 2))
        self.assertEqual(given[2:], [[1], [-4]])


class BoxRefusals(unittest.TestCase):
    def test_place_told_before_full_and_taken(self):
        self.assertEqual(last(*full_world(), crate(0, 0, 51, 1)), [-1])
        self.assertEqual(last(*full_world(), crate(1001, 0)), [-1])
        self.assertEqual(last(crate(1000, 0, 2), crate(1001, 0)), [-1])

    def test_full_told_before_taken(self):
        self.assertEqual(last(*full_world(), crate(0, 0)), [-5])

    def test_refused_box_takes_no_number_and_no_place(self):
        given = ask(crate(0, 0), crate(0, 0), crate(0, 1, 0), crate(1001, 0), within(-1000, -1000, 2000, 2000),
                    crate(0, 1), get(2))
        self.assertEqual(given[1:], [[-4], [-1], [-1], [1, 0], [1], [-2]])

    def test_numbers_are_never_given_twice(self):
        given = ask(crate(0, 0), crate(2, 0), gone(1), crate(2, 0), gone(0), gone(2), crate(0, 0))
        self.assertEqual(given, [[0], [1], [1], [2], [1], [0], [3]])


class GoneAndGet(unittest.TestCase):
    def test_gone_tells_how_many_there_are(self):
        self.assertEqual(ask(crate(0, 0), crate(2, 0), ghost(0, 0), gone(1), gone(2), gone(0))[3:], [[2], [1], [0]])

    def test_gone_makes_its_places_free(self):
        self.assertEqual(last(wall(0, 0), gone(0), wall(0, 0)), [1])

    def test_gone_of_one_that_never_was(self):
        for number in [1, 16, 4294967295]:
            self.assertEqual(ask(crate(0, 0), gone(number), get(0))[1:], [[-2], [0, 0, 0, 1, 1, 1, 1, 0]])
        self.assertEqual(last(gone(0)), [-2])

    def test_gone_twice(self):
        self.assertEqual(ask(crate(0, 0), crate(2, 0), gone(0), gone(0), gone(1))[2:], [[1], [-2], [0]])

    def test_get_tells_all(self):
        self.assertEqual(last(box(-7, 9, 3, 4, 1, 0, 0), get(0)), [0, -7, 9, 3, 4, 1, 0, 0])
        self.assertEqual(last(box(7, -9, 50, 1, 0, 1, 0), get(0)), [0, 7, -9, 50, 1, 0, 1, 0])
        self.assertEqual(last(box(-1000, 1000, 1, 50, 0, 0, 1), get(0)), [0, -1000, 1000, 1, 50, 0, 0, 1])

    def test_get_of_the_right_one(self):
        given = ask(crate(0, 0), crate(5, 6), crate(8, 9), gone(0), get(1), get(2))
        self.assertEqual(given[4:], [[0, 5, 6, 1, 1, 1, 1, 0], [0, 8, 9, 1, 1, 1, 1, 0]])

    def test_get_of_one_that_is_not_there(self):
        self.assertEqual(last(get(0)), [-2])
        self.assertEqual(last(crate(0, 0), get(1)), [-2])
        self.assertEqual(last(crate(0, 0), get(4294967295)), [-2])
        self.assertEqual(last(crate(0, 0), gone(0), get(0)), [-2])


if __name__ == "__main__":
    unittest.main()
