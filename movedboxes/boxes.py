"""A box, and how boxes lie to one another."""

FARTHEST = 1000


class Box:
    """A box; its row is across, down, wide, high, hard, pushed, carries."""

    def __init__(self, number, row):
        self.number = number
        self.across = row[0]
        self.down = row[1]
        self.wide = row[2]
        self.high = row[3]
        self.hard = row[4]
        self.pushed = row[5]
        self.carries = row[6]


def row_of(box):
    """The row from which the same box could be made as it stands now."""
    return [box.across, box.down, box.wide, box.high, box.hard, box.pushed, box.carries]


def copies_of(boxes):
    """The same boxes once more, so that the first ones stay when these are changed."""
    return [Box(box.number, row_of(box)) for box in boxes]


def numbers_of(boxes):
    """The numbers of the boxes, in their order."""
    return [box.number for box in boxes]


def is_beyond(across, down):
    """Whether the place is not from -1000 to 1000 each way."""
    return abs(across) > FARTHEST or abs(down) > FARTHEST


def spans_meet(start, length, other_start, other_length):
    """Whether two rows of places along one line have a place in common."""
    return start < other_start + other_length and other_start < start + length


def has_place_in(box, across, down, wide, high):
    """Whether the box has a place of that rectangle."""
    same_column = spans_meet(box.across, box.wide, across, wide)
    same_row = spans_meet(box.down, box.high, down, high)
    return same_column and same_row


def hard_ones(boxes):
    """Those of the boxes that are hard."""
    return [box for box in boxes if box.hard == 1]


def have_common_place(box, other):
    """Whether the two boxes have a place in common."""
    return has_place_in(box, other.across, other.down, other.wide, other.high)


def stands_on(upper, lower):
    """Whether the upper box's lowest row is right above the lower one's top row, in a column of both."""
    if upper.down + upper.high != lower.down:
        return False
    return spans_meet(upper.across, upper.wide, lower.across, lower.wide)


def in_way(boxes, box, over, under):
    """The hard boxes that have a place which the box would have so far over and under, if it is hard."""
    if box.hard == 0:
        return []
    across = box.across + over
    down = box.down + under
    others = [other for other in hard_ones(boxes) if other.number != box.number]
    return [other for other in others if has_place_in(other, across, down, box.wide, box.high)]
