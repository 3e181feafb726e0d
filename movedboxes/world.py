"""One world of boxes, and the calls that are asked of it."""

from movedboxes.boxes import Box, copies_of, hard_ones, has_place_in, have_common_place, in_way, is_beyond
from movedboxes.boxes import numbers_of, row_of, stands_on
from movedboxes.steps import fall_all, move_box

MOST_BOXES = 16
LARGEST_BOX = 50
LARGEST_RECTANGLE = 2000
LONGEST_MOVE = 60
LONGEST_RAY = 300

OUT_OF_RANGE = -1
NO_SUCH_BOX = -2
PLACE_TAKEN = -4
# One number for two refusals: box says it of a full world, move and fall of a place beyond.
TOO_MUCH = -5
NO_SUCH_PLACE = -6


class World:
    """The boxes that are there, in order of their numbers, and the number that is given next."""

    def __init__(self):
        self.boxes = []
        self.fresh = 0


def box_numbered(boxes, number):
    """The box with that number, or None."""
    for box in boxes:
        if box.number == number:
            return box
    return None


def is_size(wide, high, largest):
    """Whether wide and high are from 1 to the largest."""
    return 1 <= wide <= largest and 1 <= high <= largest


def is_way(over, under):
    """Whether over and under are -1, 0 or 1 each, and not both 0."""
    return abs(over) <= 1 and abs(under) <= 1 and (over != 0 or under != 0)


def counted(boxes):
    """How many boxes there are, then their numbers."""
    return [len(boxes)] + numbers_of(boxes)


def any_beyond(boxes):
    """Whether one of the boxes is at a place beyond."""
    return any([is_beyond(box.across, box.down) for box in boxes])


def moved_since(before, after):
    """Of each box that stands elsewhere than before: its number and its place."""
    told = []
    for old, new in zip(before, after):
        if old.across != new.across or old.down != new.down:
            told.extend([new.number, new.across, new.down])
    return told


def answer_box(world, row):
    """box: across, down, wide, high, hard, pushed, carries."""
    if is_beyond(row[0], row[1]) or not is_size(row[2], row[3], LARGEST_BOX):
        return [OUT_OF_RANGE]
    if len(world.boxes) >= MOST_BOXES:
        return [TOO_MUCH]
    new = Box(world.fresh, row)
    if in_way(world.boxes, new, 0, 0):
        return [PLACE_TAKEN]
    world.boxes.append(new)
    world.fresh += 1
    return [new.number]


def answer_gone(world, row):
    """gone: box."""
    if box_numbered(world.boxes, row[0]) is None:
        return [NO_SUCH_BOX]
    world.boxes = [box for box in world.boxes if box.number != row[0]]
    return [len(world.boxes)]


def answer_move(world, row):
    """move: box, across, down."""
    if abs(row[1]) > LONGEST_MOVE or abs(row[2]) > LONGEST_MOVE:
        return [OUT_OF_RANGE]
    # The move is made on copies: a refusal then leaves all as it was.
    boxes = copies_of(world.boxes)
    mover = box_numbered(boxes, row[0])
    if mover is None:
        return [NO_SUCH_BOX]
    steps = move_box(boxes, mover, row[1], row[2])
    # No box comes back within a move, so one that was beyond on the way is so at the end.
    if any_beyond(boxes):
        return [TOO_MUCH]
    moved = moved_since(world.boxes, boxes)
    world.boxes = boxes
    return steps + [len(moved) // 3] + moved


def answer_fall(world, row):
    """fall: places."""
    if row[0] > LONGEST_MOVE:
        return [OUT_OF_RANGE]
    # As with a move: on copies, so that a refusal leaves all as it was.
    boxes = copies_of(world.boxes)
    fell = fall_all(boxes, row[0])
    if any_beyond(boxes):
        return [TOO_MUCH]
    world.boxes = boxes
    return [len(fell) // 2] + fell


def answer_get(world, row):
    """get: box."""
    box = box_numbered(world.boxes, row[0])
    if box is None:
        return [NO_SUCH_BOX]
    return [0] + row_of(box)


def answer_within(world, row):
    """within: across, down, wide, high."""
    if is_beyond(row[0], row[1]) or not is_size(row[2], row[3], LARGEST_RECTANGLE):
        return [OUT_OF_RANGE]
    inside = [box for box in world.boxes if has_place_in(box, row[0], row[1], row[2], row[3])]
    return counted(inside)


def answer_ray(world, row):
    """ray: across, down, over, under, places."""
    if is_beyond(row[0], row[1]) or not is_way(row[2], row[3]) or row[4] > LONGEST_RAY:
        return [OUT_OF_RANGE]
    # Only the place told is bounded: the ray goes on beyond, where a box at the edge may still have places.
    across = row[0]
    down = row[1]
    for ahead in range(row[4]):
        across += row[2]
        down += row[3]
        having = [box for box in hard_ones(world.boxes) if has_place_in(box, across, down, 1, 1)]
        if having:
            return [ahead] + counted(having)
    return [NO_SUCH_PLACE]


def answer_overs(world, row):
    """overs, which has no numbers."""
    pairs = []
    for at, box in enumerate(world.boxes):
        for other in world.boxes[at + 1:]:
            if have_common_place(box, other):
                pairs.extend([box.number, other.number])
    return [len(pairs) // 2] + pairs


def answer_on(world, row):
    """on: box."""
    box = box_numbered(world.boxes, row[0])
    if box is None:
        return [NO_SUCH_BOX]
    if box.hard == 0:
        return [0, 0]
    below = [other for other in hard_ones(world.boxes) if stands_on(box, other)]
    above = [other for other in hard_ones(world.boxes) if stands_on(other, box)]
    return counted(below) + counted(above)


def answer_free(world, row):
    """free: box, across, down."""
    box = box_numbered(world.boxes, row[0])
    if box is None:
        return [NO_SUCH_BOX]
    if is_beyond(row[1], row[2]):
        return [OUT_OF_RANGE]
    return counted(in_way(world.boxes, box, row[1] - box.across, row[2] - box.down))


def answer_boxes(world, row):
    """boxes, which has no numbers."""
    return counted(world.boxes)


# By a call's number: what answers it, and how many numbers it has behind its own.
ANSWERERS = (answer_box, answer_gone, answer_move, answer_fall, answer_get, answer_within, answer_ray, answer_overs,
             answer_on, answer_free, answer_boxes)
ROW_LENGTHS = (7, 1, 3, 1, 1, 4, 5, 0, 1, 3, 0)


def answers(calls):
    """For each call on one new world, in order: how many numbers are answered, then these."""
    world = World()
    given = []
    at = 0
    while at < len(calls):
        call = calls[at]
        behind = at + 1 + ROW_LENGTHS[call]
        answerer = ANSWERERS[call]
        answer = answerer(world, calls[at + 1:behind])
        given.append(len(answer))
        given.extend(answer)
        at = behind
    return given
