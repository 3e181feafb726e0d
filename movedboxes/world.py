"""One world of boxes, and the calls that are asked of it."""

from movedboxes.boxes import Box, copies_of, has_place_in, in_way, is_beyond, numbers_of, row_of
from movedboxes.steps import fall_all, move_box

MOST_BOXES = 16
LARGEST_BOX = 50
LARGEST_RECTANGLE = 2000
LONGEST_MOVE = 60

OUT_OF_RANGE = -1
NO_SUCH_BOX = -2
PLACE_TAKEN = -4
# One number for two refusals: box says it of a full world, move and fall of a place beyond.
TOO_MUCH = -5


class World:
    """The boxes that are there, in order of their numbers, and the number that is given next."""

    def __init__(self):
        self.boxes = []
        self.fresh = 0


def box_numbered(boxes, number):
    """The box with that number, or None."""
    for box in boxes:
        if box.number == number:
            return box
    return None


def is_size(wide, high, largest):
    """Whether wide and high are from 1 to the largest."""
    return 1 <= wide <= largest and 1 <= high <= largest


def any_beyond(boxes):
    """Whether one of the boxes is at a place beyond."""
    return any([is_beyond(box.across, box.down) for box in boxes])


def moved_since(before, after):
    """Of each box that stands elsewhere than before: its number and its place."""
    told = []
    for old, new in zip(before, after):
        if old.across != new.across or old.down != new.down:
            told.extend([new.number, new.across, new.down])
    return told


def answer_box(world, row):
    """box: across, down, wide, high, hard, pushed, carries."""
    if is_beyond(row[0], row[1]) or not is_size(row[2], row[3], LARGEST_BOX):
        return [OUT_OF_RANGE]
    if len(world.boxes) >= MOST_BOXES:
        return [TOO_MUCH]
    new = Box(world.fresh, row)
    if in_way(world.boxes, new, 0, 0):
        return [PLACE_TAKEN]
    world.boxes.append(new)
    world.fresh += 1
    return [new.number]


def answer_gone(world, row):
    """gone: box."""
    if box_numbered(world.boxes, row[0]) is None:
        return [NO_SUCH_BOX]
    world.boxes = [box for box in world.boxes if box.number != row[0]]
    return [len(world.boxes)]


def answer_move(world, row):
    """move: box, across, down."""
    if abs(row[1]) > LONGEST_MOVE or abs(row[2]) > LONGEST_MOVE:
        return [OUT_OF_RANGE]
    # The move is made on copies: a refusal then leaves all as it was.
    boxes = copies_of(world.boxes)
    mover = box_numbered(boxes, row[0])
    if mover is None:
        return [NO_SUCH_BOX]
    steps = move_box(boxes, mover, row[1], row[2])
    # No box comes back within a move, so one that was beyond on the way is so at the end.
    if any_beyond(boxes):
        return [TOO_MUCH]
    moved = moved_since(world.boxes, boxes)
    world.boxes = boxes
    return steps + [len(moved) // 3] + moved


def answer_fall(world, row):
    """fall: places."""
    if row[0] > LONGEST_MOVE:
        return [OUT_OF_RANGE]
    # As with a move: on copies, so that a refusal leaves all as it was.
    boxes = copies_of(world.boxes)
    fell = fall_all(boxes, row[0])
    if any_beyond(boxes):
        return [TOO_MUCH]
    world.boxes = boxes
    return [len(fell) // 2] + fell


def answer_get(world, row):
    """get: box."""
    box = box_numbered(world.boxes, row[0])
    if box is None:
        return [NO_SUCH_BOX]
    return [0] + row_of(box)


def answer_within(world, row):
    """within: across, down, wide, high."""
    if is_beyond(row[0], row[1]) or not is_size(row[2], row[3], LARGEST_RECTANGLE):
        return [OUT_OF_RANGE]
    inside = [box for box in world.boxes if has_place_in(box, row[0], row[1], row[2], row[3])]
    return [len(inside)] + numbers_of(inside)


# By a call's number: what answers it, and how many numbers it has behind its own. A further call has its row
# at the end of both.
ANSWERERS = (answer_box, answer_gone, answer_move, answer_fall, answer_get, answer_within)
ROW_LENGTHS = (7, 1, 3, 1, 1, 4)


def answers(calls):
    """For each call on one new world, in order: how many numbers are answered, then these."""
    world = World()
    given = []
    at = 0
    while at < len(calls):
        call = calls[at]
        behind = at + 1 + ROW_LENGTHS[call]
        answerer = ANSWERERS[call]
        answer = answerer(world, calls[at + 1:behind])
        given.append(len(answer))
        given.extend(answer)
        at = behind
    return given
