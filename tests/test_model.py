"""Many worlds against a second telling of the document, which lists every place of every box."""

import copy
import random
import unittest

from movedboxes.world import answers
from tests.calls import ask, box, boxes, fall, free, get, gone, move, on, overs, parted, ray, within


class Model:
    """Boxes as dicts of their places; nothing of the package is used."""

    def __init__(self):
        self.rows = {}

    def cells(self, number, over=0, under=0):
        across, down, wide, high = self.rows[number][:4]
        return {(across + over + column, down + under + row) for column in range(wide) for row in range(high)}

    def hard(self):
        return [number for number in sorted(self.rows) if self.rows[number][4]]

    def blockers(self, number, over, under):
        if number not in self.hard():
            return set()
        wanted = self.cells(number, over, under)
        return {other for other in self.hard() if other != number and self.cells(other) & wanted}

    def stands(self, upper, lower):
        bottom = max(down for across, down in self.cells(upper))
        top = min(down for across, down in self.cells(lower))
        columns = {across for across, down in self.cells(upper)} & {across for across, down in self.cells(lower)}
        return bottom + 1 == top and bool(columns)

    def carried(self, goers):
        rounds, seen = [sorted(goers)], set(goers)
        while rounds[-1]:
            rounds.append([number for number in self.hard() if number not in seen and any(
                self.rows[below][4] and self.rows[below][6] and self.stands(number, below) for below in rounds[-1])])
            seen.update(rounds[-1])
        return sum(rounds[1:], [])

    def shift(self, number, over, under):
        self.rows[number][0] += over
        self.rows[number][1] += under

    def step(self, number, over, under):
        asked = {number}
        if under == -1:
            asked |= set(self.carried(asked))
        going = set(asked)
        while True:
            more = set().union(*[self.blockers(goer, over, under) for goer in going]) - going
            if not more:
                break
            going |= more
        if any(not self.rows[goer][5] for goer in going - asked):
            return False
        riders = self.carried(going) if under != -1 else []
        for goer in going:
            self.shift(goer, over, under)
        for rider in riders:
            if not self.blockers(rider, over, under):
                self.shift(rider, over, under)
        return True

    def move(self, number, across, down):
        before = {key: row[:2] for key, row in self.rows.items()}
        counts = []
        for many, over, under in [(across, 1, 0), (down, 0, 1)]:
            sign = -1 if many < 0 else 1
            counts.append(0)
            while counts[-1] < abs(many) and self.step(number, sign * over, sign * under):
                counts[-1] += 1
        moved = [key for key in sorted(self.rows) if self.rows[key][:2] != before[key]]
        return counts + [len(moved)] + [told for key in moved for told in [key] + self.rows[key][:2]]

    def fall(self, most):
        order = sorted([number for number in self.hard() if self.rows[number][5]],
                       key=lambda number: (-max(down for across, down in self.cells(number)), number))
        fell = []
        for number in order:
            far = 0
            while far < most and not self.blockers(number, 0, 1):
                self.shift(number, 0, 1)
                far += 1
            fell += [[number, far]] if far else []
        return [len(fell)] + sum(fell, [])

    def within(self, across, down, wide, high):
        wanted = {(across + column, down + row) for column in range(wide) for row in range(high)}
        have = [number for number in sorted(self.rows) if self.cells(number) & wanted]
        return [len(have)] + have

    def ray(self, across, down, over, under, most):
        taken = {place: number for number in self.hard() for place in self.cells(number)}
        way = [(across + far * over, down + far * under) for far in range(1, most + 1)]
        met = [far for far, place in enumerate(way) if place in taken]
        return [met[0], 1, taken[way[met[0]]]] if met else [-6]

    def overs(self):
        pairs = [[lower, upper] for lower in self.rows for upper in self.rows
                 if lower < upper and self.cells(lower) & self.cells(upper)]
        return [len(pairs)] + sum(sorted(pairs), [])

    def on(self, number):
        hard = self.hard() if self.rows[number][4] else []
        below = [other for other in hard if self.stands(number, other)]
        above = [other for other in hard if self.stands(other, number)]
        return [len(below)] + below + [len(above)] + above

    def free(self, number, across, down):
        found = sorted(self.blockers(number, across - self.rows[number][0], down - self.rows[number][1]))
        return [len(found)] + found

    def boxes(self):
        return [len(self.rows)] + sorted(self.rows)


class Told(Model):
    """The same with the refusals, by a call as it stands in the list."""

    def __init__(self):
        Model.__init__(self)
        self.given = 0

    def refusal(self, call):
        """The first refusal that's told by what is handed in, or 0."""
        kind, row = call[0], call[1:]
        beyond = {0: row[:2], 5: row[:2], 6: row[:2], 9: row[1:3]}.get(kind, [])
        outside = {
            0: not (set(row[2:4]) <= set(range(1, 51))), 2: max(map(abs, row[1:]), default=0) > 60,
            3: row[:1] > [60], 5: not (set(row[2:4]) <= set(range(1, 2001))),
            6: row[4:] > [300] or not (set(row[2:4]) <= {-1, 0, 1}) or row[2:4] == [0, 0]}.get(kind, False)
        wrong = {-1: outside or any(not -1000 <= number <= 1000 for number in beyond),
                 -2: kind in (1, 2, 4, 8, 9) and row[0] not in self.rows}
        order = [-2, -1] if kind == 9 else [-1, -2]
        return next((number for number in order if wrong[number]), 0)

    def made(self, row):
        if len(self.rows) == 16:
            return [-5]
        self.rows[self.given] = list(row)
        if self.blockers(self.given, 0, 0):
            self.rows.pop(self.given)
            return [-4]
        self.given += 1
        return [self.given - 1]

    def lost(self, number):
        self.rows.pop(number)
        return [len(self.rows)]

    def answer(self, call):
        if self.refusal(call):
            return [self.refusal(call)]
        before = copy.deepcopy(self.rows)
        told = [lambda *row: self.made(row), self.lost, self.move, self.fall,
                lambda number: [0] + self.rows[number], self.within, self.ray, self.overs, self.on, self.free,
                self.boxes][call[0]](*call[1:])
        if any(abs(row[0]) > 1000 or abs(row[1]) > 1000 for row in self.rows.values()):
            self.rows = before
            return [-5]
        return told


def made_world(chance, model, calls, expected):
    while len(model.rows) < 10 and len(calls) < 20:
        row = [chance.randrange(8), chance.randrange(8), chance.choice([1, 1, 2, 4]), chance.choice([1, 1, 1, 2]),
               chance.choice([1, 1, 1, 0]), chance.choice([1, 1, 1, 0]), chance.randrange(2)]
        number = len(model.rows)
        model.rows[number] = row
        calls.append(box(*row))
        if model.blockers(number, 0, 0):
            model.rows.pop(number)
            expected.append([-4])
        else:
            expected.append([number])


def asked_world(chance, model, calls, expected):
    for turn in range(10):
        number = chance.choice(sorted(model.rows))
        way = [chance.randrange(-4, 5), chance.randrange(-4, 5)]
        calls.append(move(number, *way))
        expected.append(model.move(number, *way))
    for sort in [within, fall, within]:
        given = [chance.randrange(5)] if sort is fall else [chance.randrange(8) for k in range(2)] + [2, 3]
        calls.append(sort(*given))
        expected.append(model.fall(*given) if sort is fall else model.within(*given))
    for number in sorted(model.rows)[:7]:
        calls.append(get(number))
        expected.append([0] + model.rows[number])


def any_call(chance, corner, eager):
    """A call of any of the eleven kinds near the corner, refused now and then; box so many times as often."""
    def place():
        return [near + chance.randrange(-8, 9) if chance.randrange(30) else chance.choice([-1001, 1001, 2147483647])
                for near in corner]

    def made():
        sizes = [chance.choice([1, 1, 1, 2, 2, 3, 5] + [0, 51] * (chance.randrange(20) == 0)) for k in range(2)]
        return box(*place(), *sizes, chance.choice([1, 1, 0]), chance.choice([1, 1, 0]), chance.randrange(2))

    number = chance.randrange(12)
    step = [chance.choice([-61, -5, -2, -1, 0, 0, 1, 2, 5, 61]) for k in range(2)]
    way = [chance.choice([-1, -1, -1, 0, 0, 0, 1, 1, 1, 2]) for k in range(2)]
    size = [chance.choice([1, 2, 3, 4, 5, 6, 7, 0]) for k in range(2)]
    far = chance.choice([0, 1, 5, 12, 300, 301])
    depth = chance.choice([0, 1, 2, 3, 60, 61])
    kinds = [gone(number), move(number, *step), move(number, *step), fall(depth), get(number), within(*place(), *size),
             ray(*place(), *way, far), overs(), on(number), on(number), free(number, *place()), boxes()]
    return chance.choice([made()] * eager + kinds)


class AnyCalls(unittest.TestCase):
    def lists(self):
        for seed in range(600):
            chance = random.Random(seed)
            corner = chance.choice([(0, 0), (0, 0), (0, 0), (-995, 995), (995, -995)])
            eager = chance.choice([4, 6, 30])
            yield seed, [any_call(chance, corner, eager) for turn in range(chance.choice([1, 10, 25, 40, 40, 40]))]

    def test_as_the_second_telling(self):
        met = set()
        for seed, calls in self.lists():
            model = Told()
            expected = [model.answer(call) for call in calls]
            self.assertEqual(ask(*calls), expected, f"seed {seed}")
            met |= {(call[0], min(told[0], 0)) for call, told in zip(calls, expected)}
        # Every kind was answered, and each of its refusals was given.
        refusals = {0: [-1, -5, -4], 1: [-2], 2: [-1, -2, -5], 3: [-1, -5], 4: [-2], 5: [-1], 6: [-1, -6], 8: [-2],
                    9: [-2, -1]}
        wanted = {(kind, 0) for kind in range(11)}
        wanted |= {(kind, number) for kind, numbers in refusals.items() for number in numbers}
        self.assertEqual(met, wanted)

    def test_the_list_is_as_it_was_and_asked_twice_answers_the_same(self):
        for seed, calls in self.lists():
            handed = [number for call in calls for number in call]
            kept = list(handed)
            first = answers(handed)
            self.assertEqual(handed, kept, f"seed {seed}")
            self.assertEqual(answers(handed), first, f"seed {seed}")
            self.assertEqual(len(parted(first)), len(calls), f"seed {seed}")


class ManyWorlds(unittest.TestCase):
    def test_as_the_second_telling(self):
        for seed in range(300):
            chance, model, calls, expected = random.Random(seed), Model(), [], []
            made_world(chance, model, calls, expected)
            asked_world(chance, model, calls, expected)
            self.assertLessEqual(len(calls), 40)
            self.assertEqual(ask(*calls), expected, f"seed {seed}")

    def test_nothing_hard_is_in_anything_hard(self):
        for seed in range(300, 360):
            chance, model, calls, expected = random.Random(seed), Model(), [], []
            made_world(chance, model, calls, expected)
            asked_world(chance, model, calls, expected)
            told = ask(*calls[:-7], *[get(number) for number in range(7)])[-7:]
            taken = [(row[1] + column, row[2] + depth) for row in told if len(row) > 1 and row[5]
                     for column in range(row[3]) for depth in range(row[4])]
            self.assertEqual(len(taken), len(set(taken)), f"seed {seed}")


if __name__ == "__main__":
    unittest.main()
