"""Promise 2: move, by its counts, its refusals, what is pushed and what is carried."""

import unittest

from tests.calls import ask, box, crate, get, ghost, gone, last, lift, move, places, wall


class MoveRange(unittest.TestCase):
    def test_60_either_way(self):
        for across, down in [(60, 0), (-60, 0), (0, 60), (0, -60), (-60, 60)]:
            self.assertEqual(last(crate(0, 0), move(0, across, down)),
                             [abs(across), abs(down), 1, 0, across, down])

    def test_61_either_way(self):
        for across, down in [(61, 0), (-61, 0), (0, 61), (0, -61), (2147483647, 0), (0, -2147483647)]:
            given = ask(crate(0, 0), move(0, across, down), get(0))
            self.assertEqual(given[1:], [[-1], [0, 0, 0, 1, 1, 1, 1, 0]])

    def test_no_such_box(self):
        self.assertEqual(last(move(0, 1, 1)), [-2])
        self.assertEqual(last(crate(0, 0), move(1, 1, 1)), [-2])
        self.assertEqual(last(crate(0, 0), gone(0), move(0, 1, 1)), [-2])

    def test_too_far_told_before_no_such_box(self):
        self.assertEqual(last(crate(0, 0), move(1, 61, 0)), [-1])

    def test_no_such_box_told_also_for_no_steps(self):
        self.assertEqual(last(crate(0, 0), move(1, 0, 0)), [-2])

    def test_no_steps(self):
        self.assertEqual(last(crate(3, 4), move(0, 0, 0)), [0, 0, 0])


class MoveBeyond(unittest.TestCase):
    def test_up_to_the_edge(self):
        self.assertEqual(last(crate(990, 0), move(0, 10, 0)), [10, 0, 1, 0, 1000, 0])
        self.assertEqual(last(crate(-990, 0), move(0, -10, 0)), [10, 0, 1, 0, -1000, 0])
        self.assertEqual(last(crate(0, 990), move(0, 0, 10)), [0, 10, 1, 0, 0, 1000])
        self.assertEqual(last(crate(0, -990), move(0, 0, -10)), [0, 10, 1, 0, 0, -1000])

    def test_beyond_leaves_all_as_it_was(self):
        for place, way in [((990, 0), (11, 0)), ((-990, 0), (-11, 0)), ((0, 990), (0, 11)), ((0, -990), (0, -11))]:
            for hard in [0, 1]:
                calls = [box(*place, hard=hard), move(0, *way)]
                self.assertEqual(last(*calls), [-5])
                self.assertEqual(places(*calls, count=1), [place])

    def test_beyond_down_takes_back_what_was_across(self):
        calls = [crate(0, 1000), crate(3, 1000), move(0, 10, 1)]
        self.assertEqual(last(*calls), [-5])
        self.assertEqual(places(*calls, count=2), [(0, 1000), (3, 1000)])

    def test_a_pushed_box_beyond(self):
        calls = [crate(990, 0), crate(995, 0), move(0, 10, 0)]
        self.assertEqual(last(*calls), [-5])
        self.assertEqual(places(*calls, count=2), [(990, 0), (995, 0)])
        self.assertEqual(last(crate(990, 0), crate(995, 0), move(0, 9, 0)), [9, 0, 2, 0, 999, 0, 1, 1000, 0])

    def test_a_carried_box_beyond(self):
        calls = [lift(990, 0, 5), crate(994, -1), move(0, 7, 0)]
        self.assertEqual(last(*calls), [-5])
        self.assertEqual(places(*calls, count=2), [(990, 0), (994, -1)])
        calls = [lift(0, -997), crate(0, -999, 1, 2), move(0, 0, -2)]
        self.assertEqual(last(*calls), [-5])
        self.assertEqual(places(*calls, count=2), [(0, -997), (0, -999)])

    def test_a_step_that_is_stopped_elsewhere_puts_none_beyond(self):
        calls = [crate(998, 0, 1, 3), crate(999, 0), crate(1000, 0), wall(999, 2), move(0, 5, 0)]
        self.assertEqual(last(*calls), [0, 0, 0])

    def test_a_stopped_box_is_not_beyond(self):
        self.assertEqual(last(crate(999, 0), wall(1000, 0), move(0, 60, 0)), [0, 0, 0])
        self.assertEqual(last(wall(1000, 0), crate(998, 0), move(1, 60, 1)), [1, 1, 1, 1, 999, 1])

    def test_a_box_may_have_other_places_beyond(self):
        self.assertEqual(last(crate(980, 0, 50), move(0, 20, 0)), [20, 0, 1, 0, 1000, 0])


class MoveAlone(unittest.TestCase):
    def test_one_that_is_not_hard_goes_through_all(self):
        calls = [ghost(0, 0), wall(1, -5, 1, 10), crate(3, 0), ghost(5, 0), move(0, 9, 0)]
        self.assertEqual(last(*calls), [9, 0, 1, 0, 9, 0])

    def test_hard_ones_go_through_what_is_not_hard(self):
        self.assertEqual(last(crate(0, 0), ghost(1, 0), ghost(2, 0, pushed=1), move(0, 4, 0)), [4, 0, 1, 0, 4, 0])

    def test_one_that_can_not_be_pushed_goes_if_asked(self):
        self.assertEqual(last(wall(0, 0), move(0, 4, -3)), [4, 3, 1, 0, 4, -3])

    def test_across_first(self):
        self.assertEqual(last(crate(0, 0), wall(3, 0), move(0, 5, 5)), [2, 5, 1, 0, 2, 5])
        self.assertEqual(last(crate(0, 0), wall(0, 3), move(0, 5, 5)), [5, 5, 1, 0, 5, 5])
        self.assertEqual(last(crate(0, 0), wall(-5, -3), move(0, -5, -5)), [5, 2, 1, 0, -5, -2])

    def test_stopped_at_once_each_way(self):
        for across, down in [(1, 0), (-1, 0), (0, 1), (0, -1)]:
            self.assertEqual(last(crate(0, 0), wall(across, down), move(0, 9 * across, 9 * down)), [0, 0, 0])

    def test_none_is_too_quick_for_a_thin_wall(self):
        self.assertEqual(last(crate(0, 0, 2, 2), wall(30, 1), move(0, 60, 0)), [28, 0, 1, 0, 28, 0])

    def test_right_past_a_wall(self):
        calls = [crate(0, 0, 2, 2), wall(4, 2), wall(4, -1), move(0, 9, 0)]
        self.assertEqual(last(*calls), [9, 0, 1, 0, 9, 0])


WAYS = [(1, 0), (-1, 0), (0, 1), (0, -1)]
KINDS_NOT_HARD = [(0, 0), (0, 1), (1, 0), (1, 1)]


class MoveOfOneNotHard(unittest.TestCase):
    def check_goes_alone(self, others, way, far=3):
        """Box 0 isn't hard, 3 wide and 2 high at 0, 0: it goes the whole way, and the others stay."""
        stay = [(other[1], other[2]) for other in others]
        for pushed, carries in KINDS_NOT_HARD:
            calls = [ghost(0, 0, 3, 2, pushed, carries), *others, move(0, far * way[0], far * way[1])]
            place = (far * way[0], far * way[1])
            self.assertEqual(last(*calls), [abs(place[0]), abs(place[1]), 1, 0, *place], (pushed, carries, way))
            self.assertEqual(places(*calls, count=len(calls) - 1), [place] + stay)

    def test_what_is_right_above_it_stays(self):
        for way in WAYS:
            self.check_goes_alone([crate(0, -1), wall(1, -1), lift(2, -1), ghost(0, -1, carries=1)], way)

    def test_a_pile_above_it_stays(self):
        for way in WAYS:
            self.check_goes_alone([lift(0, -1, 3), lift(0, -2, pushed=1), crate(0, -3)], way)

    def test_what_is_above_does_not_stop_it(self):
        for way in WAYS:
            self.check_goes_alone([crate(0, -1, 3), wall(0, -2, 3)], way)

    def test_what_is_all_around_does_not_stop_it(self):
        around = [wall(-1, -1, 5), wall(-1, 2, 5), wall(-1, 0, 1, 2), crate(3, 0), crate(3, 1), crate(4, 0, 9)]
        for way in WAYS:
            self.check_goes_alone(around, way)

    def test_what_is_within_it_stays(self):
        for way in WAYS:
            self.check_goes_alone([crate(1, 1), wall(0, 0), ghost(2, 0, pushed=1, carries=1)], way)

    def test_what_it_comes_below_stays(self):
        # On its way it is right below the crate for a while, with steps still to go.
        for way in WAYS:
            self.check_goes_alone([crate(4 * way[0], 2 * way[1] - 1)], way, far=6)

    def test_across_and_then_up(self):
        for pushed, carries in KINDS_NOT_HARD:
            calls = [ghost(0, 0, 2, 1, pushed, carries), crate(0, -1), wall(1, -2), move(0, -2, -4), get(1)]
            self.assertEqual(ask(*calls)[3:], [[2, 4, 1, 0, -2, -4], [0, 0, -1, 1, 1, 1, 1, 0]])

    def test_it_is_still_not_let_beyond(self):
        for pushed, carries in KINDS_NOT_HARD:
            calls = [ghost(0, -999, 1, 1, pushed, carries), crate(0, -1000), move(0, 0, -2), get(0)]
            self.assertEqual(ask(*calls)[2:], [[-5], [0, 0, -999, 1, 1, 0, pushed, carries]])
            calls = [ghost(0, -999, 1, 1, pushed, carries), crate(0, -1000), move(0, 0, -1)]
            self.assertEqual(last(*calls), [0, 1, 1, 0, 0, -1000])

    def test_a_hard_one_in_its_stead_takes_along_what_stands_on_it(self):
        for across, down in WAYS:
            calls = [lift(0, 0), crate(0, -1), move(0, 2 * across, 2 * down)]
            self.assertEqual(places(*calls, count=2), [(2 * across, 2 * down), (2 * across, 2 * down - 1)])


class MovePushing(unittest.TestCase):
    def test_pushes_each_way(self):
        for across, down in [(1, 0), (-1, 0), (0, 1), (0, -1)]:
            calls = [crate(0, 0), crate(2 * across, 2 * down), move(0, 5 * across, 5 * down)]
            self.assertEqual(places(*calls, count=2), [(5 * across, 5 * down), (6 * across, 6 * down)])

    def test_a_chain(self):
        calls = [crate(0, 0), crate(5, 0), crate(2, 0), crate(3, 0), move(0, 3, 0)]
        self.assertEqual(last(*calls), [3, 0, 4, 0, 3, 0, 1, 6, 0, 2, 4, 0, 3, 5, 0])

    def test_a_chain_stopped_by_what_is_between(self):
        calls = [crate(0, 0), crate(2, 0), crate(4, 0), wall(7, 0), move(0, 9, 0)]
        self.assertEqual(last(*calls), [4, 0, 3, 0, 4, 0, 1, 5, 0, 2, 6, 0])

    def test_a_branch(self):
        calls = [crate(0, 0), crate(1, -1, 1, 3), crate(2, -1), crate(2, 1), crate(2, 0), crate(3, 5), move(0, 1, 0)]
        self.assertEqual(last(*calls), [1, 0, 5, 0, 1, 0, 1, 2, -1, 2, 3, -1, 3, 3, 1, 4, 3, 0])

    def test_one_twig_of_a_branch_stops_all(self):
        calls = [crate(0, 0), crate(1, -1, 1, 3), crate(2, -1), crate(2, 1), wall(3, 1), move(0, 1, 0)]
        self.assertEqual(last(*calls), [0, 0, 0])

    def test_a_wall_that_is_pushed_by_none(self):
        calls = [crate(0, 0), crate(1, 0), wall(2, 0), crate(3, 0), move(0, 1, 0)]
        self.assertEqual(last(*calls), [0, 0, 0])

    def test_what_is_beside_is_not_pushed(self):
        self.assertEqual(last(crate(0, 0), crate(1, 1), crate(1, -1), move(0, 1, 0)), [1, 0, 1, 0, 1, 0])

    def test_what_is_not_hard_is_not_pushed(self):
        self.assertEqual(last(crate(0, 0), ghost(1, 0, pushed=1), crate(1, 0), move(0, 1, 0)),
                         [1, 0, 2, 0, 1, 0, 2, 2, 0])

    def test_pushed_across_and_then_down(self):
        calls = [crate(0, 0), crate(1, 0), crate(1, 2), move(0, 1, 3)]
        self.assertEqual(last(*calls), [1, 3, 3, 0, 1, 3, 1, 2, 0, 2, 1, 4])


class MoveCarryingAcross(unittest.TestCase):
    def test_right_and_left(self):
        for way in [1, -1]:
            calls = [lift(0, 0, 3), crate(0, -1), crate(2, -2, 1, 2), move(0, 4 * way, 0)]
            self.assertEqual(last(*calls), [4, 0, 3, 0, 4 * way, 0, 1, 4 * way, -1, 2, 2 + 4 * way, -2])

    def test_one_that_does_not_carry(self):
        self.assertEqual(last(crate(0, 0), crate(0, -1), move(0, 4, 0)), [4, 0, 1, 0, 4, 0])

    def test_what_stands_beside_above_or_at_the_corner_is_not_carried(self):
        calls = [lift(0, 0, 2), crate(2, -1), crate(-1, -1), crate(0, -2), crate(1, 1), move(0, -1, 0)]
        self.assertEqual(last(*calls), [1, 0, 1, 0, -1, 0])

    def test_one_that_is_not_hard_is_not_carried(self):
        self.assertEqual(last(lift(0, 0, 2), ghost(0, -1, pushed=1), move(0, 1, 0)), [1, 0, 1, 0, 1, 0])

    def test_one_that_can_not_be_pushed_is_carried(self):
        self.assertEqual(last(lift(0, 0), wall(0, -1), move(0, 2, 0)), [2, 0, 2, 0, 2, 0, 1, 2, -1])

    def test_what_a_pushed_box_carries_goes_along(self):
        calls = [crate(0, 0), lift(1, 0, 2, pushed=1), crate(2, -1), move(0, 2, 0)]
        self.assertEqual(last(*calls), [2, 0, 3, 0, 2, 0, 1, 3, 0, 2, 4, -1])

    def test_several_rounds(self):
        calls = [lift(0, 0), lift(0, -1), lift(0, -2), crate(0, -3), crate(0, -4), move(0, 1, 0)]
        self.assertEqual(last(*calls), [1, 0, 4, 0, 1, 0, 1, 1, -1, 2, 1, -2, 3, 1, -3])

    def test_one_that_stays(self):
        calls = [lift(0, 0, 2), crate(0, -2, 1, 2), wall(3, -2), crate(1, -2, 1, 2), move(0, 3, 0)]
        self.assertEqual(places(*calls, count=4), [(3, 0), (0, -2), (3, -2), (2, -2)])

    def test_carried_boxes_push_none(self):
        calls = [lift(0, 0), crate(0, -1), crate(1, -1), move(0, 1, 0)]
        self.assertEqual(last(*calls), [1, 0, 1, 0, 1, 0])

    def test_by_numbers_within_a_round(self):
        # The lower number goes first: here it is behind the other one and finds its place taken.
        calls = [lift(0, 0, 2), crate(0, -1), crate(1, -1), move(0, 1, 0)]
        self.assertEqual(last(*calls), [1, 0, 2, 0, 1, 0, 2, 2, -1])
        calls = [lift(0, 0, 2), crate(1, -1), crate(0, -1), move(0, 1, 0)]
        self.assertEqual(last(*calls), [1, 0, 3, 0, 1, 0, 1, 2, -1, 2, 1, -1])
        calls = [lift(0, 0, 2), crate(0, -1), crate(1, -1), move(0, -1, 0)]
        self.assertEqual(last(*calls), [1, 0, 3, 0, -1, 0, 1, -1, -1, 2, 0, -1])

    def test_an_earlier_round_goes_ahead_of_lower_numbers(self):
        # Box 1 is found in the second round, behind box 3, which is right ahead of it and so gives it way.
        calls = [lift(0, 0, 2), crate(0, -2), lift(0, -1), crate(1, -2, 1, 2), move(0, 1, 0)]
        self.assertEqual(last(*calls), [1, 0, 3, 0, 1, 0, 1, 1, -2, 3, 2, -2])

    def test_a_later_round_goes_though_what_it_stands_on_stays(self):
        calls = [lift(0, 0), lift(0, -1), crate(0, -2), wall(1, -1), move(0, 1, 0)]
        self.assertEqual(last(*calls), [1, 0, 2, 0, 1, 0, 2, 1, -2])

    def test_found_once_in_the_first_round_that_has_it(self):
        # Box 3 stands on the lift and on box 1, which stands on the lift: it goes one place a step.
        calls = [lift(0, 0, 4, 2), lift(3, -1, 1, 1), lift(0, -1, 3, 1), crate(0, -2, 4, 1), move(0, 1, 0)]
        self.assertEqual(places(*calls, count=4), [(1, 0), (4, -1), (1, -1), (1, -2)])

    def test_a_pushed_box_that_is_carried_too_goes_once(self):
        calls = [lift(0, 0, 3, pushed=1), crate(2, -2, 1, 2), box(0, -1, 1, 1, 1, 1, 1), move(0, 1, 0)]
        self.assertEqual(places(*calls, count=3), [(1, 0), (3, -2), (1, -1)])
        calls = [box(0, -1, 1, 2, 1, 1, 1), lift(1, 0, 3, pushed=1), crate(1, -1), move(0, 1, 0)]
        self.assertEqual(last(*calls), [1, 0, 3, 0, 1, -1, 1, 2, 0, 2, 2, -1])

    def test_carried_by_how_all_stood_ahead_of_the_step(self):
        # Behind its first step the lift is below box 1, which stands there: carried from the second step on.
        calls = [lift(0, 0), crate(1, -1), move(0, 3, 0)]
        self.assertEqual(last(*calls), [3, 0, 2, 0, 3, 0, 1, 3, -1])
        calls = [lift(0, 0), crate(1, -1), move(0, 1, 0)]
        self.assertEqual(last(*calls), [1, 0, 1, 0, 1, 0])

    def test_left_behind_when_the_lift_has_gone_from_below(self):
        calls = [lift(0, 0), crate(0, -2, 1, 2), wall(2, -2), move(0, 9, 0)]
        self.assertEqual(last(*calls), [9, 0, 2, 0, 9, 0, 1, 1, -2])

    def test_what_stood_elsewhere_is_carried_from_where_the_lift_comes_below(self):
        calls = [lift(0, 0), crate(0, -1), wall(2, -1), move(0, 9, 0)]
        self.assertEqual(last(*calls), [9, 0, 3, 0, 9, 0, 1, 1, -1, 2, 9, -1])

    def test_nothing_is_carried_when_none_goes(self):
        self.assertEqual(last(lift(0, 0), crate(0, -1), wall(1, 0), move(0, 1, 0)), [0, 0, 0])


class MoveCarryingDown(unittest.TestCase):
    def test_what_stands_on_a_lift_goes_down_with_it(self):
        calls = [lift(0, 0, 2), crate(0, -1), wall(1, -3, 1, 3), move(0, 0, 5)]
        self.assertEqual(last(*calls), [0, 5, 3, 0, 0, 5, 1, 0, 4, 2, 1, 2])

    def test_a_pile_of_lifts(self):
        calls = [lift(0, 0), crate(0, -3), lift(0, -2), lift(0, -1), crate(0, -4), move(0, 0, 2)]
        self.assertEqual(last(*calls), [0, 2, 4, 0, 0, 2, 1, 0, -1, 2, 0, 0, 3, 0, 1])

    def test_one_that_does_not_carry_leaves_what_stands_on_it(self):
        self.assertEqual(last(crate(0, 0), crate(0, -1), move(0, 0, 2)), [0, 2, 1, 0, 0, 2])

    def test_one_that_stays_on_something_else(self):
        calls = [lift(0, 0, 2), crate(1, -1, 2, 1), wall(2, 0), move(0, 0, 3)]
        self.assertEqual(last(*calls), [0, 3, 1, 0, 0, 3])

    def test_pushes_down_what_carries(self):
        calls = [crate(0, 0), lift(0, 1, 3, pushed=1), crate(2, 0), move(0, 0, 2)]
        self.assertEqual(last(*calls), [0, 2, 3, 0, 0, 2, 1, 0, 3, 2, 2, 2])


class MoveUp(unittest.TestCase):
    def test_pushes_up_what_does_not_stand_on_one_that_carries(self):
        self.assertEqual(last(crate(0, 0), crate(0, -1), move(0, 0, -2)), [0, 2, 2, 0, 0, -2, 1, 0, -3])
        self.assertEqual(last(crate(0, 0), wall(0, -1), move(0, 0, -2)), [0, 0, 0])

    def test_carries_up_what_can_not_be_pushed(self):
        self.assertEqual(last(lift(0, 0), wall(0, -1), move(0, 0, -2)), [0, 2, 2, 0, 0, -2, 1, 0, -3])

    def test_carries_up_over_several_rounds(self):
        calls = [lift(0, 0), wall(0, -3), lift(0, -2), lift(0, -1), move(0, 0, -1)]
        self.assertEqual(last(*calls), [0, 1, 4, 0, 0, -1, 1, 0, -4, 2, 0, -3, 3, 0, -2])

    def test_what_stands_on_one_that_does_not_carry_must_be_pushed(self):
        self.assertEqual(last(lift(0, 0), crate(0, -1), wall(0, -2), move(0, 0, -1)), [0, 0, 0])
        self.assertEqual(last(lift(0, 0), crate(0, -1), crate(0, -2), move(0, 0, -1)),
                         [0, 1, 3, 0, 0, -1, 1, 0, -2, 2, 0, -3])

    def test_what_a_pushed_box_carries_must_be_pushed(self):
        calls = [crate(0, 0), lift(0, -1, pushed=1), wall(0, -2), move(0, 0, -1)]
        self.assertEqual(last(*calls), [0, 0, 0])

    def test_what_is_carried_pushes(self):
        calls = [lift(0, 0), crate(0, -1, 3, 1), crate(2, -2), crate(2, -3), move(0, 0, -1)]
        self.assertEqual(last(*calls), [0, 1, 4, 0, 0, -1, 1, 0, -2, 2, 2, -3, 3, 2, -4])

    def test_what_is_carried_is_stopped_and_stops_all(self):
        calls = [lift(0, 0), crate(0, -1, 3, 1), crate(2, -3), wall(2, -6), crate(0, -2), move(0, 0, -9)]
        self.assertEqual(last(*calls), [0, 3, 4, 0, 0, -3, 1, 0, -4, 2, 2, -5, 4, 0, -5])

    def test_what_stands_on_a_carried_ghost_stays(self):
        calls = [lift(0, 0), ghost(0, -1, carries=1), crate(0, -2), move(0, 0, -1)]
        self.assertEqual(last(*calls), [0, 1, 1, 0, 0, -1])


if __name__ == "__main__":
    unittest.main()
