"""Writes calls as the interface tells them and parts what is answered, call by call."""

from movedboxes.world import answers


def box(across, down, wide=1, high=1, hard=1, pushed=1, carries=0):
    return [0, across, down, wide, high, hard, pushed, carries]


def wall(across, down, wide=1, high=1):
    return box(across, down, wide, high, 1, 0, 0)


def crate(across, down, wide=1, high=1):
    return box(across, down, wide, high, 1, 1, 0)


def lift(across, down, wide=1, high=1, pushed=0):
    return box(across, down, wide, high, 1, pushed, 1)


def ghost(across, down, wide=1, high=1, pushed=0, carries=0):
    return box(across, down, wide, high, 0, pushed, carries)


def gone(number):
    return [1, number]


def move(number, across, down):
    return [2, number, across, down]


def fall(places):
    return [3, places]


def get(number):
    return [4, number]


def within(across, down, wide=1, high=1):
    return [5, across, down, wide, high]


def ray(across, down, over, under, most=300):
    return [6, across, down, over, under, most]


def overs():
    return [7]


def on(number):
    return [8, number]


def free(number, across, down):
    return [9, number, across, down]


def boxes():
    return [10]


def parted(given):
    parts = []
    at = 0
    while at < len(given):
        length = given[at]
        part = given[at + 1:at + 1 + length]
        if length < 1 or len(part) != length:
            raise ValueError("the answers are not counted as told")
        parts.append(part)
        at += 1 + length
    return parts


def ask(*calls):
    """What is answered to each of the calls, one list each."""
    parts = parted(answers([number for call in calls for number in call]))
    if len(parts) != len(calls):
        raise ValueError("there is not one answer for each call")
    return parts


def last(*calls):
    """What is answered to the last of the calls."""
    return ask(*calls)[-1]


def places(*calls, count):
    """Where the boxes 0 to count - 1 are behind the calls."""
    told = ask(*calls, *[get(number) for number in range(count)])[len(calls):]
    return [tuple(answer[1:3]) for answer in told]
