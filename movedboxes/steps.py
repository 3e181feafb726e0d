"""How boxes go: one step, a move and a fall. Each changes the boxes that it is handed."""

from movedboxes.boxes import hard_ones, in_way, numbers_of, stands_on


def shift(box, over, under):
    """Put the box so many places over and under."""
    box.across += over
    box.down += under


def riders_on(boxes, goers):
    """The hard boxes that stand on a hard one of these that carries, by numbers."""
    # One that isn't hard goes by itself: no hard box counts as standing on it, whatever its "carries" says.
    carriers = [goer for goer in hard_ones(goers) if goer.carries == 1]
    riders = []
    for box in hard_ones(boxes):
        if any([stands_on(box, carrier) for carrier in carriers]):
            riders.append(box)
    return riders


def carried_by(boxes, goers):
    """What the goers carry, without themselves, in the order in which it is found: round by round."""
    found = []
    newest = goers
    while newest:
        known = numbers_of(goers) + numbers_of(found)
        newest = [box for box in riders_on(boxes, newest) if box.number not in known]
        found.extend(newest)
    return found


def pushed_by(boxes, asked, over, under):
    """The hard boxes in the way of those asked, in the way of these, and so on."""
    going = list(asked)
    done = 0
    while done < len(going):
        known = numbers_of(going)
        going.extend([box for box in in_way(boxes, going[done], over, under) if box.number not in known])
        done += 1
    return going[len(asked):]


def step(boxes, mover, over, under):
    """Let the mover go one place with all that it pushes and carries; whether it went."""
    upward = under < 0
    asked = [mover]
    if upward:
        asked = [mover] + carried_by(boxes, [mover])
    pushed = pushed_by(boxes, asked, over, under)
    if any([box.pushed == 0 for box in pushed]):
        return False
    going = asked + pushed
    # Who is carried is told by how all stood ahead of the step, so it is found before anything goes.
    riders = [] if upward else carried_by(boxes, going)
    for box in going:
        shift(box, over, under)
    for rider in riders:
        if not in_way(boxes, rider, over, under):
            shift(rider, over, under)
    return True


def steps_toward(boxes, mover, over, under, most):
    """Let the mover go step by step as long as it can, at most so many; how many there were."""
    count = 0
    while count < most and step(boxes, mover, over, under):
        count += 1
    return count


def way_of(number):
    """-1 if the number is below 0, else 1."""
    return -1 if number < 0 else 1


def move_box(boxes, mover, across, down):
    """Move the mover, across first; how many steps across and how many down or up there were."""
    steps_across = steps_toward(boxes, mover, way_of(across), 0, abs(across))
    steps_down = steps_toward(boxes, mover, 0, way_of(down), abs(down))
    return [steps_across, steps_down]


def fall_order(box):
    """The key by which boxes fall: the lowest row that is lowest first, then the lower number."""
    return (-(box.down + box.high), box.number)


def fall_all(boxes, most):
    """Let all fall at most so many places; of each that fell, in their order, its number and how far."""
    fell = []
    fallers = [box for box in hard_ones(boxes) if box.pushed == 1]
    for box in sorted(fallers, key=fall_order):
        far = 0
        while far < most and not in_way(boxes, box, 0, 1):
            shift(box, 0, 1)
            far += 1
        if far > 0:
            fell.extend([box.number, far])
    return fell
