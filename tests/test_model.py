"""Many worlds against a second telling of the document, which lists every place of every box."""

import random
import unittest

from tests.calls import ask, box, fall, get, move, within


class Model:
    """Boxes as dicts of their places; nothing of the package is used."""

    def __init__(self):
        self.rows = {}

    def cells(self, number, over=0, under=0):
        across, down, wide, high = self.rows[number][:4]
        return {(across + over + column, down + under + row) for column in range(wide) for row in range(high)}

    def hard(self):
        return [number for number in sorted(self.rows) if self.rows[number][4]]

    def blockers(self, number, over, under):
        if number not in self.hard():
            return set()
        wanted = self.cells(number, over, under)
        return {other for other in self.hard() if other != number and self.cells(other) & wanted}

    def stands(self, upper, lower):
        bottom = max(down for across, down in self.cells(upper))
        top = min(down for across, down in self.cells(lower))
        columns = {across for across, down in self.cells(upper)} & {across for across, down in self.cells(lower)}
        return bottom + 1 == top and bool(columns)

    def carried(self, goers):
        rounds, seen = [sorted(goers)], set(goers)
        while rounds[-1]:
            rounds.append([number for number in self.hard() if number not in seen and any(
                self.rows[below][4] and self.rows[below][6] and self.stands(number, below) for below in rounds[-1])])
            seen.update(rounds[-1])
        return sum(rounds[1:], [])

    def shift(self, number, over, under):
        self.rows[number][0] += over
        self.rows[number][1] += under

    def step(self, number, over, under):
        asked = {number}
        if under == -1:
            asked |= set(self.carried(asked))
        going = set(asked)
        while True:
            more = set().union(*[self.blockers(goer, over, under) for goer in going]) - going
            if not more:
                break
            going |= more
        if any(not self.rows[goer][5] for goer in going - asked):
            return False
        riders = self.carried(going) if under != -1 else []
        for goer in going:
            self.shift(goer, over, under)
        for rider in riders:
            if not self.blockers(rider, over, under):
                self.shift(rider, over, under)
        return True

    def move(self, number, across, down):
        before = {key: row[:2] for key, row in self.rows.items()}
        counts = []
        for many, over, under in [(across, 1, 0), (down, 0, 1)]:
            sign = -1 if many < 0 else 1
            counts.append(0)
            while counts[-1] < abs(many) and self.step(number, sign * over, sign * under):
                counts[-1] += 1
        moved = [key for key in sorted(self.rows) if self.rows[key][:2] != before[key]]
        return counts + [len(moved)] + [told for key in moved for told in [key] + self.rows[key][:2]]

    def fall(self, most):
        order = sorted([number for number in self.hard() if self.rows[number][5]],
                       key=lambda number: (-max(down for across, down in self.cells(number)), number))
        fell = []
        for number in order:
            far = 0
            while far < most and not self.blockers(number, 0, 1):
                self.shift(number, 0, 1)
                far += 1
            fell += [[number, far]] if far else []
        return [len(fell)] + sum(fell, [])

    def within(self, across, down, wide, high):
        wanted = {(across + column, down + row) for column in range(wide) for row in range(high)}
        have = [number for number in sorted(self.rows) if self.cells(number) & wanted]
        return [len(have)] + have


def made_world(chance, model, calls, expected):
    while len(model.rows) < 10 and len(calls) < 20:
        row = [chance.randrange(8), chance.randrange(8), chance.choice([1, 1, 2, 4]), chance.choice([1, 1, 1, 2]),
               chance.choice([1, 1, 1, 0]), chance.choice([1, 1, 1, 0]), chance.randrange(2)]
        number = len(model.rows)
        model.rows[number] = row
        calls.append(box(*row))
        if model.blockers(number, 0, 0):
            model.rows.pop(number)
            expected.append([-4])
        else:
            expected.append([number])


def asked_world(chance, model, calls, expected):
    for turn in range(10):
        number = chance.choice(sorted(model.rows))
        way = [chance.randrange(-4, 5), chance.randrange(-4, 5)]
        calls.append(move(number, *way))
        expected.append(model.move(number, *way))
    for sort in [within, fall, within]:
        given = [chance.randrange(5)] if sort is fall else [chance.randrange(8) for k in range(2)] + [2, 3]
        calls.append(sort(*given))
        expected.append(model.fall(*given) if sort is fall else model.within(*given))
    for number in sorted(model.rows)[:7]:
        calls.append(get(number))
        expected.append([0] + model.rows[number])


class ManyWorlds(unittest.TestCase):
    def test_as_the_second_telling(self):
        for seed in range(300):
            chance, model, calls, expected = random.Random(seed), Model(), [], []
            made_world(chance, model, calls, expected)
            asked_world(chance, model, calls, expected)
            self.assertLessEqual(len(calls), 40)
            self.assertEqual(ask(*calls), expected, f"seed {seed}")

    def test_nothing_hard_is_in_anything_hard(self):
        for seed in range(300, 360):
            chance, model, calls, expected = random.Random(seed), Model(), [], []
            made_world(chance, model, calls, expected)
            asked_world(chance, model, calls, expected)
            told = ask(*calls[:-7], *[get(number) for number in range(7)])[-7:]
            taken = [(row[1] + column, row[2] + depth) for row in told if len(row) > 1 and row[5]
                     for column in range(row[3]) for depth in range(row[4])]
            self.assertEqual(len(taken), len(set(taken)), f"seed {seed}")


if __name__ == "__main__":
    unittest.main()
