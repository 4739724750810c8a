"""Promise 2, its calls meanall, off, even, bases."""

import unittest

from calls import (
    GREATEST, ask, bases, begin, both, count, even, last, meanall, meanno, meanyes, merge, off, setto, value,
)


class MeanAll(unittest.TestCase):
    def test_of_all_of_the_group(self):
        self.assertEqual(
            ask(
                begin(3), value(0, 1, 4), value(1, 1, 2), value(2, 2, 3),
                count(1, 0, 1, 3), count(1, 1, 2, 2), count(1, 2, 3, 1), meanall(1), meanall(0),
            )[7:],
            # 4/4 + 4/2 + 8/3 over 12
            [[0, 17, 36], [-33]],
        )

    def test_those_who_turned_out_so_and_the_others_count_alike(self):
        for y, n in ((6, 0), (0, 6), (5, 1), (3, 3)):
            asked = [begin(2), value(0, 1, 2), value(1, 1, 5), count(0, 0, y, n), count(0, 1, 2, 1), meanall(0)]
            # 6/2 + 3/5 over 9
            self.assertEqual(last(*asked), [0, 2, 5])

    def test_made_lower(self):
        self.assertEqual(last(begin(1), value(0, 50, 100), count(0, 0, 99, 99), meanall(0)), [0, 1, 2])

    def test_numbers_of_nought_and_one(self):
        made = [begin(2), value(1, 1, 1), count(0, 0, 2, 3), count(0, 1, 6, 4), count(1, 0, 0, 7), count(1, 1, 9, 0)]
        self.assertEqual(ask(*made, meanall(0), meanall(1))[6:], [[0, 2, 3], [0, 9, 16]])
        self.assertEqual(last(begin(2), count(0, 1, 1, 1), meanall(0)), [0, 0, 1])
        self.assertEqual(last(begin(2), value(1, 1, 1), count(0, 1, 1, 1), meanall(0)), [0, 1, 1])

    def test_lowers_with_nothing_in_common(self):
        numbers = [value(0, 1, 100), value(1, 98, 99), value(2, 1, 97), value(3, 90, 91)]
        counts = [count(0, s, 99, 99 - s) for s in range(4)]
        self.assertEqual(last(begin(4), *numbers, *counts, meanall(0)), [0, 1317087479, 2641785300])

    def test_a_score_without_people_has_no_part(self):
        self.assertEqual(last(begin(2), value(0, 1, 2), value(1, 1, 97), count(0, 0, 2, 3), meanall(0)), [0, 1, 2])

    def test_nobody_turned_out_so_or_not_so(self):
        for y, n in ((0, 4), (4, 0)):
            self.assertEqual(last(begin(1), value(0, 1, 3), count(1, 0, y, n), meanall(1)), [0, 1, 3])

    def test_an_empty_group(self):
        self.assertEqual(
            ask(begin(1), meanall(0), count(0, 0, 1, 1), meanall(1), meanall(0)),
            [[0], [-33], [2], [-33], [0, 0, 1]],
        )

    def test_no_such_group(self):
        for g in (2, 3, GREATEST):
            self.assertEqual(ask(begin(4), meanall(g)), [[0], [-2]])
            self.assertEqual(last(begin(4), count(0, 0, 1, 1), count(1, 0, 1, 1), meanall(g)), [-2])


class Off(unittest.TestCase):
    def test_the_mean_of_the_squares(self):
        self.assertEqual(
            ask(
                begin(3), value(0, 1, 4), value(1, 1, 2), value(2, 2, 3),
                count(1, 0, 1, 3), count(1, 1, 2, 2), count(1, 2, 3, 1), off(1), off(0),
            )[7:],
            # 9/16 + 3/16, 2/4 + 2/4, 3/9 + 4/9, over 12
            [[0, 91, 432], [-33]],
        )

    def test_from_one_and_from_nought(self):
        for a, b, so, not_so in (
            (1, 3, [4, 9], [1, 9]), (2, 3, [1, 9], [4, 9]), (1, 2, [1, 4], [1, 4]), (1, 100, [9801, 10000], [1, 10000]),
            (99, 100, [1, 10000], [9801, 10000]), (0, 7, [1, 1], [0, 1]), (7, 7, [0, 1], [1, 1]),
        ):
            self.assertEqual(last(begin(1), value(0, a, b), count(0, 0, 1, 0), off(0)), [0] + so)
            self.assertEqual(last(begin(1), value(0, a, b), count(0, 0, 0, 1), off(0)), [0] + not_so)

    def test_numbers_of_nought_and_one(self):
        self.assertEqual(
            ask(
                begin(2), value(1, 1, 1), count(0, 0, 2, 3), count(0, 1, 6, 1), off(0),
                count(1, 0, 0, 9), count(1, 1, 8, 0), off(1), count(1, 0, 9, 0), count(1, 1, 0, 8), off(1),
            )[4::3],
            [[0, 1, 4], [0, 0, 1], [0, 1, 1]],
        )

    def test_every_number_has_another_lower_one(self):
        numbers = [value(0, 1, 100), value(1, 98, 99), value(2, 1, 97), value(3, 90, 91)]
        counts = [count(0, s, 99, 99 - s) for s in range(4)]
        self.assertEqual(
            last(begin(4), *numbers, *counts, off(0)), [0, 112777998169809667, 230858484546690000],
        )

    def test_made_lower(self):
        # 3 times 1/9 and 3 times 4/9, over 6
        self.assertEqual(last(begin(1), value(0, 2, 3), count(1, 0, 3, 3), off(1)), [0, 5, 18])
        self.assertEqual(last(begin(1), value(0, 50, 100), count(1, 0, 99, 99), off(1)), [0, 1, 4])

    def test_a_score_without_people_has_no_part(self):
        self.assertEqual(last(begin(2), value(0, 1, 2), value(1, 1, 97), count(0, 0, 2, 3), off(0)), [0, 1, 4])

    def test_behind_setto_and_both(self):
        self.assertEqual(
            ask(begin(1), count(0, 0, 99, 98), count(1, 0, 97, 99), setto(0), off(0), both(), off(0), off(1)),
            [
                # 99 by 197 times 98 by 197; then with 196 by 393 for the number
                [0], [197], [196], [0], [0, 9702, 38809],
                [0, 0], [0, 7606859, 30426453], [0, 7567657, 30272004],
            ],
        )

    def test_an_empty_group(self):
        self.assertEqual(
            ask(begin(1), off(0), count(0, 0, 1, 1), off(1), off(0)), [[0], [-33], [2], [-33], [0, 1, 2]],
        )

    def test_no_such_group(self):
        for g in (2, 3, GREATEST):
            self.assertEqual(ask(begin(4), off(g)), [[0], [-2]])
            self.assertEqual(last(begin(4), count(0, 0, 1, 1), count(1, 0, 1, 1), off(g)), [-2])


class Even(unittest.TestCase):
    # Of those who turned out so the mean is 1 by 2 in both groups, of the others 1 by 3, then 2 by 3.
    MADE = [begin(3), value(0, 1, 3), value(1, 2, 3), value(2, 1, 2), count(0, 0, 1, 2), count(0, 1, 1, 0)]

    def test_of_those_who_turned_out_so_then_of_the_others(self):
        self.assertEqual(last(*self.MADE, count(1, 2, 3, 0), count(1, 1, 0, 2), even()), [1, 0])
        self.assertEqual(last(*self.MADE, count(1, 2, 3, 0), count(1, 0, 0, 7), even()), [1, 1])
        self.assertEqual(last(*self.MADE, count(1, 2, 3, 1), count(1, 0, 0, 7), even()), [1, 0])
        self.assertEqual(last(*self.MADE, count(1, 2, 3, 0), count(1, 0, 1, 7), even()), [0, 1])
        self.assertEqual(last(*self.MADE, count(1, 2, 3, 1), count(1, 0, 1, 7), even()), [0, 0])

    def test_the_other_way_round(self):
        made = [begin(3), value(0, 1, 3), value(1, 2, 3), value(2, 1, 2), count(1, 0, 2, 1), count(1, 1, 0, 1)]
        self.assertEqual(last(*made, count(0, 2, 0, 3), count(0, 0, 2, 0), even()), [1, 1])
        self.assertEqual(last(*made, count(0, 2, 0, 3), count(0, 1, 2, 0), even()), [0, 1])

    def test_it_asks_for_the_mean_not_for_how_many(self):
        self.assertEqual(last(begin(1), value(0, 1, 7), count(0, 0, 1, 99), count(1, 0, 99, 1), even()), [1, 1])

    def test_a_little_off_is_not_even(self):
        made = [begin(2), value(0, 98, 99), value(1, 99, 100)]
        self.assertEqual(last(*made, count(0, 0, 99, 99), count(1, 1, 99, 99), even()), [0, 0])
        self.assertEqual(
            last(*made, count(0, 0, 99, 99), count(1, 0, 99, 98), count(1, 1, 0, 1), even()), [1, 0],
        )

    def test_numbers_alike_told_by_other_fractions(self):
        made = [begin(2), value(0, 25, 100), value(1, 3, 12), count(0, 0, 2, 3), count(1, 1, 5, 7)]
        self.assertEqual(last(*made, even()), [1, 1])

    def test_none_turned_out_so_in_some_group(self):
        for first, second in ((0, 5), (5, 0), (0, 0)):
            self.assertEqual(last(begin(1), count(0, 0, first, 5), count(1, 0, second, 5), even()), [0, 1])

    def test_none_turned_out_not_so_in_some_group(self):
        for first, second in ((0, 5), (5, 0), (0, 0)):
            self.assertEqual(last(begin(1), count(0, 0, 5, first), count(1, 0, 5, second), even()), [1, 0])

    def test_empty_groups(self):
        self.assertEqual(last(begin(4), even()), [0, 0])
        for g in (0, 1):
            self.assertEqual(last(begin(4), count(g, 0, 5, 5), even()), [0, 0])

    def test_those_of_one_group_all_so_of_the_other_all_not_so(self):
        self.assertEqual(last(begin(1), count(0, 0, 5, 0), count(1, 0, 0, 5), even()), [0, 0])

    def test_a_score_without_people_has_no_part(self):
        self.assertEqual(
            last(begin(3), value(1, 1, 97), value(2, 1, 1), count(0, 0, 2, 3), count(1, 0, 4, 1), even()), [1, 1],
        )

    def test_it_goes_by_the_means_that_are_told(self):
        made = [begin(2), value(0, 1, 3), value(1, 3, 4), count(0, 0, 2, 1), count(0, 1, 1, 5), count(1, 0, 4, 1)]
        for so in (0, 1, 2, 3):
            first, second, others, other_others, told = ask(
                *made, count(1, 1, so, 5), meanyes(0), meanyes(1), meanno(0), meanno(1), even(),
            )[7:]
            self.assertEqual(told, [int(first == second), int(others == other_others)])
            self.assertEqual(told, [int(so == 2), 1])


class Bases(unittest.TestCase):
    def test_parts_alike(self):
        self.assertEqual(last(begin(1), count(0, 0, 2, 4), count(1, 0, 3, 6), bases()), [1, 1, 3, 1, 3])
        self.assertEqual(last(begin(1), count(0, 0, 99, 99), count(1, 0, 1, 1), bases()), [1, 1, 2, 1, 2])

    def test_parts_not_alike_group_nought_ahead(self):
        self.assertEqual(last(begin(1), count(0, 0, 2, 4), count(1, 0, 3, 5), bases()), [0, 1, 3, 3, 8])
        self.assertEqual(last(begin(1), count(0, 0, 3, 5), count(1, 0, 2, 4), bases()), [0, 3, 8, 1, 3])

    def test_of_the_whole_group_not_of_a_score(self):
        made = [begin(4), count(0, 0, 1, 0), count(0, 3, 0, 2), count(1, 1, 2, 3), count(1, 2, 0, 1)]
        self.assertEqual(last(*made, bases()), [1, 1, 3, 1, 3])

    def test_full_groups(self):
        full = [count(g, s, 99, 99 - g) for g in (0, 1) for s in range(4)]
        self.assertEqual(last(begin(4), *full, bases()), [0, 1, 2, 99, 197])

    def test_all_or_nobody_turned_out_so(self):
        for first, second, told in (
            ((0, 3), (0, 9), [1, 0, 1, 0, 1]), ((3, 0), (9, 0), [1, 1, 1, 1, 1]),
            ((0, 3), (9, 0), [0, 0, 1, 1, 1]), ((3, 0), (0, 9), [0, 1, 1, 0, 1]), ((0, 3), (9, 9), [0, 0, 1, 1, 2]),
        ):
            self.assertEqual(last(begin(1), count(0, 0, *first), count(1, 0, *second), bases()), told)

    def test_the_numbers_have_no_part_in_it(self):
        made = [begin(1), count(0, 0, 1, 1), count(1, 0, 1, 2)]
        for set_to in ([], [value(0, 1, 7)], [setto(1)], [both()]):
            self.assertEqual(last(*made, *set_to, bases()), [0, 1, 2, 1, 3])

    def test_a_merge_leaves_them(self):
        made = [begin(2), count(0, 0, 1, 1), count(0, 1, 1, 3), count(1, 0, 1, 2)]
        self.assertEqual(
            ask(*made, bases(), merge(0, 1), bases())[4:], [[1, 1, 3, 1, 3], [0], [1, 1, 3, 1, 3]],
        )

    def test_an_empty_group(self):
        self.assertEqual(last(begin(2), bases()), [-33])
        for g in (0, 1):
            for y, n in ((5, 5), (0, 5), (5, 0)):
                self.assertEqual(last(begin(2), count(g, 1, y, n), bases()), [-33])
        self.assertEqual(
            ask(begin(1), count(0, 0, 1, 1), count(1, 0, 1, 1), bases(), count(0, 0, 0, 0), bases())[3:],
            [[1, 1, 2, 1, 2], [0], [-33]],
        )


if __name__ == "__main__":
    unittest.main()
