"""Many lists of calls, answered a second time by a plain model over Python's own fractions."""

import unittest
from fractions import Fraction

from calls import GREATEST
from evenscores.groups import answers

ARGUMENTS = (1, 4, 2, 1, 3, 2, 1, 1, 1)


class Model:
    def __init__(self):
        self.k = None

    def call(self, number, given):
        if number == 0:
            return self.begin(given[0])
        if self.k is None:
            return [-11]
        named = {1: self.count, 2: self.cell, 3: self.people, 4: self.value, 5: self.share, 6: self.istrue}
        if number in named:
            return named[number](*given)
        return self.mean(given[0], number - 7)

    def begin(self, k):
        if k not in (1, 2, 3, 4):
            return [-22]
        self.k = k
        self.cells = {(g, s): (0, 0) for g in (0, 1) for s in range(k)}
        self.numbers = [Fraction(0)] * k
        return [0]

    def count(self, g, s, y, n):
        if (g, s) not in self.cells:
            return [-2]
        if max(y, n) > 99:
            return [-22]
        self.cells[g, s] = (y, n)
        return [y + n]

    def cell(self, g, s):
        return list(self.cells.get((g, s), (-2,)))

    def people(self, g):
        if g not in (0, 1):
            return [-2]
        so = sum(self.cells[g, s][0] for s in range(self.k))
        return [so + sum(self.cells[g, s][1] for s in range(self.k)), so]

    def value(self, s, a, b):
        if s not in range(self.k):
            return [-2]
        if b not in range(1, 101) or a > b:
            return [-22]
        self.numbers[s] = Fraction(a, b)
        return [0]

    def share_of(self, g, s):
        y, n = self.cells[g, s]
        return Fraction(y, y + n) if y + n else None

    def share(self, g, s):
        if (g, s) not in self.cells:
            return [-2]
        part = self.share_of(g, s)
        return [-33] if part is None else [0, part.numerator, part.denominator]

    def istrue(self, g):
        if g not in (0, 1):
            return [-2]
        return [int(all(self.share_of(g, s) in (None, self.numbers[s]) for s in range(self.k)))]

    def mean(self, g, which):
        if g not in (0, 1):
            return [-2]
        holders = [self.cells[g, s][which] for s in range(self.k)]
        if not any(holders):
            return [-33]
        whole = sum(many * number for many, number in zip(holders, self.numbers))
        mean = whole / sum(holders)
        return [0, mean.numerator, mean.denominator]


class Draws:
    """Numbers that are the same at each run, without a random source."""

    def __init__(self, seed):
        self.state = seed

    def below(self, limit):
        self.state = (self.state * 6364136223846793005 + 1442695040888963407) % 2 ** 64
        return (self.state >> 33) % limit

    def one_of(self, choices):
        return choices[self.below(len(choices))]


def drawn_call(draws, number):
    groups = (0, 1, 0, 1, 0, 1, 0, 1, 2, GREATEST)
    scores = (0, 1, 2, 3, 0, 1, 0, 1, 4, GREATEST)
    few = (0, 0, 1, 2, 3, 5, 33, 98, 99, draws.below(100), draws.below(100), 100, GREATEST)
    if number == 0:
        return [0, draws.one_of((0, 1, 2, 3, 4, 4, 5, GREATEST))]
    if number == 1:
        return [1, draws.one_of(groups), draws.one_of(scores), draws.one_of(few), draws.one_of(few)]
    if number == 4:
        b = draws.one_of((0, 1, 2, 4, 100, 101, GREATEST, 1 + draws.below(100), 1 + draws.below(100)))
        return [4, draws.one_of(scores), draws.one_of((0, 1, b, b + (b < GREATEST), draws.below(b + 1))), b]
    if ARGUMENTS[number] == 2:
        return [number, draws.one_of(groups), draws.one_of(scores)]
    return [number, draws.one_of(groups)]


def drawn_calls(draws):
    called = [drawn_call(draws, draws.one_of((0, 1, 5)))] if draws.below(4) == 0 else []
    called.append([0, 1 + draws.below(4)])
    for _ in range(30):
        kind = draws.below(20)
        called.append(drawn_call(draws, kind if kind in range(1, 9) else draws.one_of((1, 1, 4, 6, 7, 8))))
    if draws.below(4) == 0:
        called.insert(draws.below(len(called)), drawn_call(draws, 0))
    return called


class Drawn(unittest.TestCase):
    def check(self, called):
        model = Model()
        wanted = []
        for call in called:
            told = model.call(call[0], call[1:])
            wanted += [len(told)] + told
        self.assertEqual(answers([number for call in called for number in call]), wanted, called)

    def test_drawn_lists(self):
        for seed in range(1500):
            self.check(drawn_calls(Draws(seed)))

    def test_every_small_cell_against_every_small_number(self):
        for y in range(5):
            for n in range(5):
                for b in range(1, 9):
                    for a in range(b + 1):
                        self.check([[0, 1], [1, 1, 0, y, n], [4, 0, a, b], [6, 1], [5, 1, 0], [7, 1], [8, 1]])


if __name__ == "__main__":
    unittest.main()
