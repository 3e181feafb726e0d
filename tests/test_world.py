"""The interface: answers, its list of calls and its list of answers."""

import contextlib
import inspect
import io
import unittest

import movedboxes.world
from movedboxes.world import answers
from tests.calls import ask, box, boxes, crate, fall, free, get, ghost, gone, lift, move, on, overs, parted, ray, within

# All eleven kinds, forty calls.
STORY = [lift(0, 0, 3), crate(1, -1), ghost(2, -1), move(0, 2, -1), crate(0, 0), fall(4), get(1), within(0, 0, 9, 9),
         move(9, 1, 1), box(0, 0, 51), on(0), on(1), on(2), on(9), overs(), boxes(), ray(0, -2, 1, 0, 3),
         ray(0, -2, 1, 0, 2), ray(0, -2, 0, 0, 2), ray(9, 9, -1, -1, 300), free(3, 3, -2), free(3, 0, 0),
         free(9, 1001, 0), free(0, 1001, 0), free(0, 1, -2), gone(2), gone(2), overs(), boxes(), ghost(3, -2, 2, 2),
         overs(), boxes(), move(0, -3, 2), get(4), overs(), on(0), within(-9, -9, 20, 20), gone(0), fall(9), boxes()]


def joined(calls):
    return [number for call in calls for number in call]


class Interface(unittest.TestCase):
    def test_its_names(self):
        self.assertEqual(list(inspect.signature(movedboxes.world.answers).parameters), ["calls"])

    def test_one_list_call_behind_call(self):
        self.assertEqual(answers([0, 3, -4, 2, 1, 1, 0, 1]), [1, 0])
        self.assertEqual(answers([4, 0]), [1, -2])
        self.assertEqual(answers([0, 3, -4, 2, 1, 1, 0, 1, 4, 0, 2, 0, -1, 2, 5, 2, -2, 1, 1, 3, 1, 1, 0]),
                         [1, 0, 8, 0, 3, -4, 2, 1, 1, 0, 1, 6, 1, 2, 1, 0, 2, -2, 2, 1, 0, 1, 0, 1, 0])

    def test_a_story(self):
        self.assertEqual(ask(*STORY), [
            [0], [1], [2], [2, 1, 2, 0, 2, -1, 1, 3, -2], [3], [1, 3, 4], [0, 3, -2, 1, 1, 1, 1, 0], [1, 3],
            [-2], [-1], [0, 1, 1], [1, 0, 0], [0, 0], [-2], [1, 0, 2], [4, 0, 1, 2, 3], [2, 1, 1],
            [-6], [-1], [-6], [1, 1], [0],
            [-2], [-1], [1, 1], [3], [-2], [0], [3, 0, 1, 3], [4],
            [2, 0, 4, 1, 4], [4, 0, 1, 3, 4], [3, 2, 2, 0, -1, 1, 1, 0, 0], [0, 3, -2, 2, 2, 0, 0, 0], [0], [0, 1, 1],
            [4, 0, 1, 3, 4], [3], [2, 3, 9, 1, 9], [3, 1, 3, 4]])
        self.assertEqual({call[0] for call in STORY}, set(range(11)))
        self.assertEqual(len(STORY), 40)

    def test_calls_without_numbers_stand_alone(self):
        self.assertEqual(answers([7]), [1, 0])
        self.assertEqual(answers([10]), [1, 0])
        self.assertEqual(answers([10, 7, 10, 8, 0, 7, 0, 3, -4, 2, 1, 1, 0, 1, 10, 7]),
                         [1, 0, 1, 0, 1, 0, 1, -2, 1, 0, 1, 0, 2, 1, 0, 1, 0])
        self.assertEqual(answers([0, 3, -4, 2, 1, 1, 0, 1, 8, 0, 6, 0, -4, 1, 0, 3, 9, 0, 4, -4, 10]),
                         [1, 0, 2, 0, 0, 3, 2, 1, 0, 1, 0, 2, 1, 0])

    def test_forty_calls(self):
        given = ask(*[crate(2 * number, 0) for number in range(40)])
        self.assertEqual(given, [[number] for number in range(16)] + [[-5]] * 24)
        given = ask(crate(0, 0), *[move(0, 1, 0) for number in range(38)], get(0))
        self.assertEqual(given[-2:], [[1, 0, 1, 0, 38, 0], [0, 38, 0, 1, 1, 1, 1, 0]])

    def test_the_list_is_as_it_was(self):
        calls = joined(STORY)
        kept = list(calls)
        answers(calls)
        self.assertEqual(calls, kept)

    def test_the_list_is_not_changed_for_a_while_either(self):
        class Watched(list):
            def refuse(self, *given):
                raise AssertionError("the list was changed")

            append = extend = insert = pop = remove = reverse = sort = clear = refuse
            __setitem__ = __delitem__ = __iadd__ = __imul__ = refuse

        self.assertEqual(answers(Watched(joined(STORY))), answers(joined(STORY)))

    def test_nothing_is_kept(self):
        first = answers(joined(STORY))
        self.assertEqual(answers(joined(STORY)), first)
        first.append(7)
        self.assertEqual(answers(crate(5, 5)), [1, 0])
        self.assertEqual(answers(within(0, 0, 9, 9)), [1, 0])

    def test_whole_numbers_in_a_list(self):
        given = answers(joined(STORY))
        self.assertIs(type(given), list)
        self.assertEqual({type(number) for number in given}, {int})
        self.assertEqual(len(parted(given)), len(STORY))

    def test_nothing_is_printed(self):
        shown = io.StringIO()
        with contextlib.redirect_stdout(shown), contextlib.redirect_stderr(shown):
            answers(joined(STORY))
        self.assertEqual(shown.getvalue(), "")


if __name__ == "__main__":
    unittest.main()
