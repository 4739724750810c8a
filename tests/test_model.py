"""Many lists of calls, answered a second time by a plain model over Python's own fractions."""

import unittest
from fractions import Fraction

from calls import GREATEST
from evenscores.groups import answers

ARGUMENTS = (1, 4, 2, 1, 3, 2, 1, 1, 1, 1, 1, 1, 0, 2, 0, 0, 0)


def told(number):
    return [number.numerator, number.denominator]


class Model:
    def __init__(self):
        self.k = None

    def call(self, number, given):
        if number == 0:
            return self.begin(given[0])
        if self.k is None:
            return [-11]
        named = {
            1: self.count, 2: self.cell, 3: self.people, 4: self.value, 5: self.share, 6: self.istrue, 10: self.off,
            11: self.setto, 12: self.both, 13: self.merge, 14: self.even, 15: self.bases, 16: self.values,
        }
        if number in named:
            return named[number](*given)
        return self.mean(given[0], {7: (1,), 8: (0,), 9: (0, 1)}[number])

    def begin(self, k):
        if k not in (1, 2, 3, 4):
            return [-22]
        self.k = k
        self.cells = {(g, s): (0, 0) for g in (0, 1) for s in range(k)}
        self.numbers = [Fraction(0)] * k
        return [0]

    def count(self, g, s, y, n):
        if (g, s) not in self.cells:
            return [-2]
        if max(y, n) > 99:
            return [-22]
        self.cells[g, s] = (y, n)
        return [y + n]

    def cell(self, g, s):
        return list(self.cells.get((g, s), (-2,)))

    def people(self, g):
        if g not in (0, 1):
            return [-2]
        so = sum(self.cells[g, s][0] for s in range(self.k))
        return [so + sum(self.cells[g, s][1] for s in range(self.k)), so]

    def value(self, s, a, b):
        if s not in range(self.k):
            return [-2]
        if b not in range(1, 101) or a > b:
            return [-22]
        self.numbers[s] = Fraction(a, b)
        return [0]

    def share_of(self, g, s):
        y, n = self.cells[g, s]
        return Fraction(y, y + n) if y + n else None

    def share(self, g, s):
        if (g, s) not in self.cells:
            return [-2]
        part = self.share_of(g, s)
        return [-33] if part is None else [0] + told(part)

    def true_in(self, g):
        return int(all(self.share_of(g, s) in (None, self.numbers[s]) for s in range(self.k)))

    def istrue(self, g):
        return [self.true_in(g)] if g in (0, 1) else [-2]

    def outcomes(self, g):
        """Each person of the group: how it turned out, 1 or 0, and the number of the score."""
        persons = []
        for s in range(self.k):
            y, n = self.cells[g, s]
            persons += [(1, self.numbers[s])] * y + [(0, self.numbers[s])] * n
        return persons

    def mean(self, g, wanted):
        if g not in (0, 1):
            return [-2]
        numbers = [number for outcome, number in self.outcomes(g) if outcome in wanted]
        return [0] + told(sum(numbers) / Fraction(len(numbers))) if numbers else [-33]

    def off(self, g):
        if g not in (0, 1):
            return [-2]
        squares = [(outcome - number) ** 2 for outcome, number in self.outcomes(g)]
        return [0] + told(sum(squares) / len(squares)) if squares else [-33]

    def set_from(self, groups):
        for s in range(self.k):
            so = sum(self.cells[g, s][0] for g in groups)
            all_there = sum(sum(self.cells[g, s]) for g in groups)
            if all_there:
                self.numbers[s] = Fraction(so, all_there)

    def setto(self, g):
        if g not in (0, 1):
            return [-2]
        self.set_from([g])
        return [self.true_in(1 - g)]

    def both(self):
        self.set_from([0, 1])
        return [self.true_in(0), self.true_in(1)]

    def merge(self, a, b):
        if max(a, b) >= self.k:
            return [-2]
        if a == b:
            return [-22]
        merged = {g: tuple(x + y for x, y in zip(self.cells[g, a], self.cells[g, b])) for g in (0, 1)}
        if max(merged[0] + merged[1]) > 99:
            return [-28]
        for g in (0, 1):
            self.cells[g, a] = merged[g]
            self.cells[g, b] = (0, 0)
        return [0]

    def even(self):
        means = [(self.mean(0, (outcome,)), self.mean(1, (outcome,))) for outcome in (1, 0)]
        return [int(first == second and first != [-33]) for first, second in means]

    def bases(self):
        groups = [[outcome for outcome, number in self.outcomes(g)] for g in (0, 1)]
        if not groups[0] or not groups[1]:
            return [-33]
        parts = [Fraction(sum(group), len(group)) for group in groups]
        return [int(parts[0] == parts[1])] + told(parts[0]) + told(parts[1])

    def values(self):
        return [self.k] + [part for number in self.numbers for part in told(number)]


class Draws:
    """Numbers that are the same at each run, without a random source."""

    def __init__(self, seed):
        self.state = seed

    def below(self, limit):
        self.state = (self.state * 6364136223846793005 + 1442695040888963407) % 2 ** 64
        return (self.state >> 33) % limit

    def one_of(self, choices):
        return choices[self.below(len(choices))]


def drawn_call(draws, number):
    groups = (0, 1, 0, 1, 0, 1, 0, 1, 2, GREATEST)
    scores = (0, 1, 2, 3, 0, 1, 0, 1, 4, GREATEST)
    few = (0, 0, 1, 2, 3, 5, 33, 98, 99, draws.below(100), draws.below(100), 100, GREATEST)
    if number == 0:
        return [0, draws.one_of((0, 1, 2, 3, 4, 4, 5, GREATEST))]
    if number == 1:
        return [1, draws.one_of(groups), draws.one_of(scores), draws.one_of(few), draws.one_of(few)]
    if number == 4:
        b = draws.one_of((0, 1, 2, 4, 100, 101, GREATEST, 1 + draws.below(100), 1 + draws.below(100)))
        return [4, draws.one_of(scores), draws.one_of((0, 1, b, b + (b < GREATEST), draws.below(b + 1))), b]
    if number == 13:
        return [13, draws.one_of(scores), draws.one_of(scores)]
    if ARGUMENTS[number] == 2:
        return [number, draws.one_of(groups), draws.one_of(scores)]
    return [number, draws.one_of(groups)][:1 + ARGUMENTS[number]]


def drawn_calls(draws):
    called = [drawn_call(draws, draws.below(17))] if draws.below(4) == 0 else []
    called.append([0, 1 + draws.below(4)])
    for _ in range(32):
        kind = draws.below(24)
        called.append(drawn_call(draws, kind if kind in range(1, 17) else draws.one_of((1, 1, 1, 4))))
    if draws.below(4) == 0:
        called.insert(draws.below(len(called)), drawn_call(draws, 0))
    return called + [[16]]


def groups_alike(draws):
    """Calls with tables in which much is true and even, as it seldom is in others."""
    k = 1 + draws.below(4)
    called = [[0, k]]
    for s in range(k):
        y = draws.below(4)
        n = draws.below(4)
        times = draws.below(4)
        called += [[1, 0, s, y, n], [1, 1, s, y * times, n * times]]
    for _ in range(22):
        called.append(drawn_call(draws, draws.one_of((6, 9, 10, 11, 12, 13, 14, 15, 16, 11, 12, 14, 15))))
    return called


class Drawn(unittest.TestCase):
    def check(self, called):
        model = Model()
        wanted = []
        for call in called:
            told = model.call(call[0], call[1:])
            wanted += [len(told)] + told
        handed_in = [number for call in called for number in call]
        self.assertTrue(len(called) <= 40 and len(handed_in) <= 200)
        self.assertEqual(answers(handed_in), wanted, called)

    def test_drawn_lists(self):
        for seed in range(1500):
            self.check(drawn_calls(Draws(seed)))

    def test_drawn_lists_of_groups_alike(self):
        for seed in range(1500):
            self.check(groups_alike(Draws(seed)))

    def test_every_small_cell_against_every_small_number(self):
        for y in range(5):
            for n in range(5):
                for b in range(1, 9):
                    for a in range(b + 1):
                        self.check([
                            [0, 1], [1, 1, 0, y, n], [4, 0, a, b], [6, 1], [5, 1, 0], [7, 1], [8, 1], [9, 1], [10, 1],
                            [16], [11, 1], [16], [10, 1],
                        ])


if __name__ == "__main__":
    unittest.main()
