"""Promise 3, what holds, at every small table; and the corners that the document names."""

import itertools
import unittest
from fractions import Fraction

from calls import (
    ask, bases, begin, both, count, even, everything, held, istrue, last, meanall, meanno, meanyes, merge, off, people,
    setto, share, value, values,
)


def tables(most):
    """Every table of two scores with at most so many in each place, as the calls that make it."""
    for y00, n00, y01, n01, y10, n10, y11, n11 in itertools.product(range(most + 1), repeat=8):
        yield [begin(2), count(0, 0, y00, n00), count(0, 1, y01, n01), count(1, 0, y10, n10), count(1, 1, y11, n11)]


def known_for_sure(made, numbers):
    """Have all who turned out so the number 1, and all who didn't 0?"""
    for number, g, s, y, n in made[1:]:
        if (y > 0 and numbers[s] != 1) or (n > 0 and numbers[s] != 0):
            return False
    return True


def fractions_of(told):
    """What values answers, as Python's own fractions."""
    return [Fraction(told[1 + 2 * s], told[2 + 2 * s]) for s in range(told[0])]


class TrueAndEven(unittest.TestCase):
    def test_only_with_parts_alike_or_known_for_sure(self):
        seen = {"alike": 0, "sure": 0, "true but not even": 0}
        for made in tables(2):
            true, evenly, parts, told = ask(*made, both(), even(), bases(), values())[5:]
            if true != [1, 1] or parts == [-33]:
                continue
            alike = parts[0] == 1
            sure = known_for_sure(made, fractions_of(told))
            if evenly == [1, 1]:
                self.assertTrue(alike or sure, made)
                seen["alike"] += alike and not sure
                seen["sure"] += sure and not alike
            elif not alike and not sure:
                seen["true but not even"] += 1
        self.assertTrue(all(many > 0 for many in seen.values()), seen)

    def test_even_both_ways_but_not_true(self):
        made = [begin(1), value(0, 1, 2), count(0, 0, 1, 1), count(1, 0, 1, 2)]
        self.assertEqual(
            ask(*made, istrue(0), istrue(1), even(), bases())[4:], [[1], [0], [1, 1], [0, 1, 2, 1, 3]],
        )

    def test_true_in_both_but_not_even(self):
        made = [begin(2), count(0, 0, 1, 2), count(0, 1, 2, 1), count(1, 0, 1, 2), count(1, 1, 4, 2), setto(0)]
        self.assertEqual(
            ask(*made, istrue(0), istrue(1), even(), bases())[5:], [[1], [1], [1], [0, 0], [0, 1, 2, 5, 9]],
        )

    def test_parts_alike_with_both_true_and_even(self):
        made = [begin(2), count(0, 0, 1, 2), count(0, 1, 2, 1), count(1, 0, 2, 4), count(1, 1, 4, 2), setto(0)]
        self.assertEqual(
            ask(*made, istrue(0), istrue(1), even(), bases())[5:], [[1], [1], [1], [1, 1], [1, 1, 2, 1, 2]],
        )

    def test_known_for_sure_with_other_parts(self):
        made = [begin(2), value(1, 1, 1), count(0, 0, 0, 2), count(0, 1, 1, 0), count(1, 0, 0, 3), count(1, 1, 5, 0)]
        self.assertEqual(
            ask(*made, istrue(0), istrue(1), even(), bases())[6:], [[1], [1], [1, 1], [0, 1, 3, 5, 8]],
        )


class TrueInAGroup(unittest.TestCase):
    def test_the_mean_there_is_the_part_that_turned_out_so(self):
        for made in tables(2):
            seen = ask(*made, setto(0), meanall(0), people(0), setto(1), meanall(1), people(1))[5:]
            for mean, (many, so) in (seen[1:3], seen[4:6]):
                if many == 0:
                    self.assertEqual(mean, [-33])
                else:
                    part = Fraction(so, many)
                    self.assertEqual(mean, [0, part.numerator, part.denominator])

    def test_told_by_value_as_well_as_set(self):
        made = [begin(2), value(0, 1, 3), value(1, 3, 4), count(0, 0, 5, 10), count(0, 1, 9, 3), count(1, 0, 1, 1)]
        self.assertEqual(ask(*made, istrue(0), meanall(0), bases())[6:], [[1], [0, 14, 27], [0, 14, 27, 1, 2]])

    def test_not_true_it_need_not_be(self):
        made = [begin(2), value(0, 1, 2), value(1, 3, 4), count(0, 0, 5, 10), count(0, 1, 9, 3)]
        self.assertEqual(ask(*made, istrue(0), meanall(0))[5:], [[0], [0, 11, 18]])


class SetToShares(unittest.TestCase):
    def test_true_there(self):
        for made in tables(2):
            seen = ask(*made, setto(0), istrue(0), istrue(1), setto(1), istrue(1), istrue(0))[5:]
            self.assertEqual((seen[1], seen[2]), ([1], seen[0]))
            self.assertEqual((seen[4], seen[5]), ([1], seen[3]))

    def test_none_are_less_far_off(self):
        grid = [(a, b) for b in range(1, 6) for a in range(b + 1)]
        for y0, n0, y1, n1 in ((1, 2, 3, 1), (0, 3, 2, 2), (4, 0, 0, 1), (1, 4, 0, 0), (3, 2, 1, 1)):
            for g in (0, 1):
                others = [count(1 - g, 0, 2, 5), count(1 - g, 1, 7, 1)]
                made = [begin(2), count(g, 0, y0, n0), count(g, 1, y1, n1)] + others
                least = Fraction(*last(*made, setto(g), off(g))[1:])
                further = 0
                for first, second in itertools.product(grid, repeat=2):
                    told = last(*made, value(0, *first), value(1, *second), off(g))
                    self.assertGreaterEqual(Fraction(*told[1:]), least)
                    further += Fraction(*told[1:]) > least
                self.assertGreater(further, 0)

    def test_a_little_beside_the_share_is_further_off(self):
        for y, n in ((1, 1), (33, 66), (49, 51), (99, 1)):
            least = Fraction(*last(begin(1), count(1, 0, y, n), setto(1), off(1))[1:])
            part = Fraction(y, y + n)
            self.assertEqual(least, part * (1 - part))
            for a in range(101):
                told = Fraction(*last(begin(1), count(1, 0, y, n), value(0, a, 100), off(1))[1:])
                self.assertEqual(told > least, Fraction(a, 100) != part)
                self.assertGreaterEqual(told, least)

    def test_both_is_no_less_far_off_than_the_groups_own(self):
        for made in tables(1):
            for g in (0, 1):
                own, together = ask(*made, setto(g), off(g), both(), off(g))[6::2]
                if own != [-33]:
                    self.assertLessEqual(Fraction(*own[1:]), Fraction(*together[1:]))


class TrueInBoth(unittest.TestCase):
    def test_true_in_both_they_are_true_in_both_set_to_both(self):
        seen = {0: 0, 1: 0}
        for made in tables(2):
            first, told, together, told_together, in_first, in_second = ask(
                *made, setto(0), values(), both(), values(), istrue(0), istrue(1),
            )[5:]
            self.assertEqual(together, in_first + in_second)
            if first == [1]:
                self.assertEqual(together, [1, 1])
                self.assertEqual(told, told_together)
            seen[first[0]] += 1
        self.assertTrue(seen[0] > 0 and seen[1] > 0)

    def test_told_by_value(self):
        made = [begin(2), value(0, 1, 3), value(1, 3, 4), count(0, 0, 1, 2), count(1, 0, 2, 4), count(1, 1, 3, 1)]
        self.assertEqual(
            ask(*made, istrue(0), istrue(1), both(), values(), istrue(0), istrue(1))[6:],
            [[1], [1], [1, 1], [2, 1, 3, 3, 4], [1], [1]],
        )


class Corners(unittest.TestCase):
    def test_a_score_without_people(self):
        made = [begin(2), value(0, 1, 7), value(1, 1, 2), count(0, 1, 3, 1), count(1, 1, 3, 1)]
        self.assertEqual(
            ask(*made, share(0, 0), share(1, 0), setto(0), both(), values(), merge(0, 1), values(), istrue(0))[5:],
            [[-33], [-33], [1], [1, 1], [2, 1, 7, 3, 4], [0], [2, 1, 7, 3, 4], [0]],
        )

    def test_a_group_in_which_nobody_turned_out_so(self):
        made = [begin(2), value(0, 1, 2), value(1, 1, 3), count(0, 0, 0, 2), count(0, 1, 0, 1), count(1, 0, 2, 1)]
        self.assertEqual(
            ask(
                *made, people(0), meanyes(0), meanno(0), meanall(0), off(0), even(), bases(),
                setto(0), values(), off(0), meanall(0), even(),
            )[6:],
            [
                [3, 0], [-33], [0, 4, 9], [0, 4, 9], [0, 11, 54], [0, 0], [0, 0, 1, 2, 3],
                [0], [2, 0, 1, 0, 1], [0, 0, 1], [0, 0, 1], [0, 1],
            ],
        )

    def test_numbers_of_nought_and_one_alone(self):
        made = [begin(2), value(1, 1, 1), count(0, 0, 0, 2), count(0, 1, 1, 0), count(1, 0, 0, 3), count(1, 1, 5, 0)]
        self.assertEqual(
            ask(*made, off(0), off(1), meanyes(0), meanno(1), even(), setto(0), both(), values())[6:],
            [[0, 0, 1], [0, 0, 1], [0, 1, 1], [0, 0, 1], [1, 1], [1], [1, 1], [2, 0, 1, 1, 1]],
        )
        # The wrong way round they are even all the same, and as far off as can be.
        self.assertEqual(
            ask(*made, value(0, 1, 1), value(1, 0, 1), off(0), istrue(0), even())[8:], [[0, 1, 1], [0], [1, 1]],
        )

    def test_groups_alike(self):
        rows = ((1, 2), (5, 1), (0, 3), (4, 0))
        made = [begin(4)] + [count(g, s, *rows[s]) for g in (0, 1) for s in range(4)]
        numbers = [4, 1, 3, 5, 6, 0, 1, 1, 1]
        for number in (setto(0), setto(1), both()):
            self.assertEqual(
                ask(*made, number, values(), istrue(0), istrue(1), even(), bases())[9:],
                [[1, 1] if number == both() else [1], numbers, [1], [1], [1, 1], [1, 5, 8, 5, 8]],
            )

    def test_true_in_one(self):
        made = [begin(1), count(0, 0, 1, 1), count(1, 0, 1, 2)]
        asked = [istrue(0), istrue(1)]
        self.assertEqual(
            ask(*made, setto(0), *asked, setto(1), *asked, both(), *asked)[3:],
            [[0], [1], [0], [0], [0], [1], [0, 0], [0], [0]],
        )

    def test_scores_merged_that_had_like_numbers(self):
        made = [
            begin(3), count(0, 0, 1, 2), count(0, 1, 2, 4), count(0, 2, 3, 1), count(1, 0, 3, 6), count(1, 1, 4, 8),
            count(1, 2, 6, 2), setto(0),
        ]
        shown = [istrue(0), istrue(1), even(), bases(), values()]
        for g in (0, 1):
            shown += [meanyes(g), meanno(g), meanall(g), off(g)]
        before = ask(*made, *shown)[8:]
        self.assertEqual(before[:2] + before[4:5], [[1], [1], [3, 1, 3, 1, 3, 3, 4]])
        self.assertEqual(ask(*made, merge(0, 1), *shown)[8:], [[0]] + before)
        self.assertEqual(ask(*made, merge(1, 0), *shown)[8:], [[0]] + before)
        self.assertNotEqual(ask(*made, merge(0, 2), *shown)[9:], before)

    def test_one_score_for_all(self):
        made = [begin(1), count(0, 0, 2, 4), count(1, 0, 3, 5)]
        self.assertEqual(
            ask(*made, setto(0), values(), even(), bases(), both(), values(), even(), meanall(0), meanall(1))[3:],
            [
                [0], [1, 1, 3], [1, 1], [0, 1, 3, 3, 8],
                [0, 0], [1, 5, 14], [1, 1], [0, 5, 14], [0, 5, 14],
            ],
        )
        alike = [begin(1), count(0, 0, 2, 4), count(1, 0, 4, 8)]
        self.assertEqual(
            ask(*alike, setto(0), both(), values(), even(), bases())[3:],
            [[1], [1, 1], [1, 1, 3], [1, 1], [1, 1, 3, 1, 3]],
        )

    def test_numbers_set_twice(self):
        for made in tables(1):
            for number in (setto(0), setto(1), both()):
                seen = ask(*made, number, *held(2), number, *held(2))[5:]
                self.assertEqual(seen[:6], seen[6:])
        made = [begin(2), count(0, 0, 1, 2), count(1, 0, 2, 2), count(1, 1, 3, 1), value(0, 1, 7), value(1, 1, 7)]
        once = ask(*made, setto(1), *everything(2))[6:]
        self.assertEqual(ask(*made, setto(0), setto(1), *everything(2))[7:], once)
        self.assertEqual(ask(*made, value(0, 1, 9), both(), setto(1), *everything(2))[8:], once)


if __name__ == "__main__":
    unittest.main()
