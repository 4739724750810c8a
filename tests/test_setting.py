"""Promise 2, its calls values, setto, both, merge."""

import unittest

from calls import (
    GREATEST, ask, begin, both, cell, count, held, istrue, last, meanall, merge, off, people, setto, share, value,
    values,
)


class Values(unittest.TestCase):
    def test_just_behind_a_begin(self):
        self.assertEqual(last(begin(1), values()), [1, 0, 1])
        self.assertEqual(last(begin(2), values()), [2, 0, 1, 0, 1])
        self.assertEqual(last(begin(3), values()), [3, 0, 1, 0, 1, 0, 1])
        self.assertEqual(last(begin(4), values()), [4, 0, 1, 0, 1, 0, 1, 0, 1])

    def test_behind_value(self):
        self.assertEqual(last(begin(1), value(0, 2, 3), values()), [1, 2, 3])
        self.assertEqual(
            ask(begin(4), value(2, 3, 7), values(), value(0, 99, 100), value(3, 1, 1), value(1, 0, 5), values())[2::4],
            [[4, 0, 1, 0, 1, 3, 7, 0, 1], [4, 99, 100, 0, 1, 3, 7, 1, 1]],
        )

    def test_made_lower(self):
        self.assertEqual(
            last(begin(4), value(0, 50, 100), value(1, 36, 84), value(2, 0, 100), value(3, 100, 100), values()),
            [4, 1, 2, 3, 7, 0, 1, 1, 1],
        )

    def test_behind_setto_and_both(self):
        self.assertEqual(last(begin(1), count(1, 0, 3, 6), setto(1), values()), [1, 1, 3])
        self.assertEqual(last(begin(1), count(1, 0, 3, 6), both(), values()), [1, 1, 3])
        four = [begin(4)] + [count(g, s, 1 + g, 1 + 2 * s) for g in (0, 1) for s in range(4)]
        self.assertEqual(last(*four, setto(0), values()), [4, 1, 2, 1, 4, 1, 6, 1, 8])
        self.assertEqual(last(*four, setto(1), values()), [4, 2, 3, 2, 5, 2, 7, 2, 9])
        self.assertEqual(last(*four, both(), values()), [4, 3, 5, 1, 3, 3, 13, 3, 17])

    def test_behind_a_second_begin(self):
        self.assertEqual(last(begin(4), value(0, 1, 2), begin(2), values()), [2, 0, 1, 0, 1])
        self.assertEqual(last(begin(1), value(0, 1, 2), begin(2), values()), [2, 0, 1, 0, 1])

    def test_the_people_have_no_part_in_it(self):
        self.assertEqual(last(begin(2), value(1, 1, 2), count(0, 0, 3, 4), values()), [2, 0, 1, 1, 2])


class SetTo(unittest.TestCase):
    MADE = [begin(2), count(0, 0, 1, 2), count(0, 1, 30, 10), count(1, 0, 2, 4), count(1, 1, 2, 3)]

    def test_each_score_gets_its_share_there(self):
        self.assertEqual(ask(*self.MADE, setto(0), values(), istrue(0))[6:], [[2, 1, 3, 3, 4], [1]])
        self.assertEqual(ask(*self.MADE, setto(1), values(), istrue(1))[6:], [[2, 1, 3, 2, 5], [1]])

    def test_it_answers_of_the_other_group(self):
        for g in (0, 1):
            self.assertEqual(ask(*self.MADE, setto(g), istrue(1 - g))[5:], [[0], [0]])
            alike = self.MADE[:4] + [count(1, 1, 3, 1)]
            self.assertEqual(ask(*alike, setto(g), istrue(1 - g))[5:], [[1], [1]])

    def test_the_table_stays(self):
        before = ask(*self.MADE, *held(2))[5:-1]
        self.assertEqual(ask(*self.MADE, setto(1), *held(2))[6:-1], before)

    def test_a_score_with_nobody_in_the_group_keeps_its_number(self):
        made = [begin(3), value(0, 1, 7), value(1, 2, 7), value(2, 3, 7), count(0, 1, 1, 1), count(1, 2, 1, 2)]
        self.assertEqual(ask(*made, setto(0), values())[6:], [[0], [3, 1, 7, 1, 2, 3, 7]])
        self.assertEqual(ask(*made, setto(1), values())[6:], [[0], [3, 1, 7, 2, 7, 1, 3]])

    def test_what_stays_can_be_true_in_the_other_group(self):
        made = [begin(2), value(1, 1, 3), count(0, 0, 1, 1), count(1, 1, 1, 2)]
        self.assertEqual(ask(*made, setto(0), values())[4:], [[1], [2, 1, 2, 1, 3]])
        self.assertEqual(ask(*made, setto(1), values())[4:], [[0], [2, 0, 1, 1, 3]])

    def test_an_empty_group(self):
        made = [begin(2), value(0, 1, 2), value(1, 2, 3), count(1, 0, 1, 1)]
        self.assertEqual(ask(*made, setto(0), values())[4:], [[1], [2, 1, 2, 2, 3]])
        self.assertEqual(ask(*made, setto(1), values())[4:], [[1], [2, 1, 2, 2, 3]])
        self.assertEqual(ask(*made, value(0, 1, 3), setto(0), values())[5:], [[0], [2, 1, 3, 2, 3]])
        self.assertEqual(ask(begin(1), setto(0), setto(1), values()), [[0], [1], [1], [1, 0, 1]])

    def test_all_or_nobody_turned_out_so(self):
        made = [begin(2), value(0, 1, 2), value(1, 1, 2), count(0, 0, 0, 9), count(0, 1, 9, 0)]
        self.assertEqual(ask(*made, setto(0), values(), off(0))[5:], [[1], [2, 0, 1, 1, 1], [0, 0, 1]])

    def test_lower_numbers_above_a_hundred(self):
        self.assertEqual(last(begin(1), count(0, 0, 98, 99), setto(0), values()), [1, 98, 197])
        self.assertEqual(last(begin(1), count(0, 0, 99, 99), setto(0), values()), [1, 1, 2])
        self.assertEqual(last(begin(1), count(0, 0, 1, 99), setto(0), values()), [1, 1, 100])

    def test_setto_behind_setto(self):
        made = [begin(3), count(0, 0, 1, 1), count(0, 1, 1, 2), count(1, 1, 1, 3), count(1, 2, 1, 4)]
        self.assertEqual(
            ask(*made, setto(0), values(), setto(1), values(), setto(0), values())[5:],
            [[0], [3, 1, 2, 1, 3, 0, 1], [0], [3, 1, 2, 1, 4, 1, 5], [0], [3, 1, 2, 1, 3, 1, 5]],
        )

    def test_set_twice_to_the_same_group(self):
        for g in (0, 1):
            seen = ask(*self.MADE, setto(g), *held(2), setto(g), *held(2))[5:]
            self.assertEqual(seen[:6], seen[6:])

    def test_later_people_do_not_change_the_number(self):
        self.assertEqual(
            ask(begin(1), count(0, 0, 1, 1), setto(0), count(0, 0, 1, 2), values(), istrue(0))[4:], [[1, 1, 2], [0]],
        )

    def test_no_such_group(self):
        before = ask(*self.MADE, value(0, 1, 7), *held(2))[6:]
        for g in (2, 3, GREATEST):
            seen = ask(*self.MADE, value(0, 1, 7), setto(g), *held(2))[6:]
            self.assertEqual(seen[0], [-2])
            self.assertEqual(seen[1:], before)


class Both(unittest.TestCase):
    def test_the_share_of_both_groups_together(self):
        made = [begin(2), count(0, 0, 1, 1), count(1, 0, 1, 3), count(0, 1, 2, 2), count(1, 1, 3, 3)]
        # 2 of 6, not the mean of 1 by 2 and 1 by 4
        self.assertEqual(ask(*made, both(), values())[5:], [[0, 0], [2, 1, 3, 1, 2]])

    def test_true_in_group_nought_then_in_group_one(self):
        made = [begin(2), count(0, 0, 1, 1), count(1, 0, 3, 3), count(0, 1, 1, 2), count(1, 1, 2, 4)]
        self.assertEqual(ask(*made, both(), istrue(0), istrue(1))[5:], [[1, 1], [1], [1]])
        self.assertEqual(ask(*made, count(1, 1, 2, 5), both(), istrue(0), istrue(1))[6:], [[0, 0], [0], [0]])

    def test_a_score_with_people_in_either(self):
        made = [begin(3), value(0, 1, 7), value(1, 2, 7), value(2, 3, 7), count(0, 1, 1, 1), count(1, 2, 1, 2)]
        self.assertEqual(ask(*made, both(), values())[6:], [[1, 1], [3, 1, 7, 1, 2, 1, 3]])

    def test_a_score_with_nobody_keeps_its_number(self):
        for s in range(4):
            made = [begin(4)] + [value(t, 1, 7) for t in range(4)]
            made += [count(g, t, 2, 1) for g in (0, 1) for t in range(4) if t != s]
            wanted = [4] + [number for t in range(4) for number in ((1, 7) if t == s else (2, 3))]
            self.assertEqual(ask(*made, both(), values())[11:], [[1, 1], wanted])

    def test_nobody_at_all(self):
        self.assertEqual(
            ask(begin(2), value(0, 1, 2), both(), values()), [[0], [0], [1, 1], [2, 1, 2, 0, 1]],
        )

    def test_both_behind_setto(self):
        made = [begin(3), value(2, 1, 7), count(0, 0, 1, 1), count(0, 1, 1, 2), count(1, 1, 1, 3)]
        for g in (0, 1):
            self.assertEqual(ask(*made, setto(g), both(), values())[6:], [[0, 0], [3, 1, 2, 2, 7, 1, 7]])

    def test_setto_behind_both(self):
        made = [begin(3), value(2, 1, 7), count(0, 0, 1, 1), count(0, 1, 1, 2), count(1, 1, 1, 3)]
        self.assertEqual(ask(*made, both(), setto(1), values())[6:], [[0], [3, 1, 2, 1, 4, 1, 7]])

    def test_set_twice(self):
        made = [begin(2), count(0, 0, 1, 1), count(1, 0, 1, 3), count(0, 1, 2, 2)]
        seen = ask(*made, both(), *held(2), both(), *held(2))[4:]
        self.assertEqual(seen[:6], seen[6:])
        self.assertEqual(seen[5], [2, 1, 3, 1, 2])

    def test_the_greatest_lower_number(self):
        made = [begin(1), count(0, 0, 98, 99), count(1, 0, 99, 99)]
        self.assertEqual(ask(*made, both(), values())[3:], [[0, 0], [1, 197, 395]])
        self.assertEqual(last(begin(1), count(0, 0, 99, 99), count(1, 0, 99, 99), both()), [1, 1])

    def test_the_table_stays(self):
        made = [begin(2), count(0, 0, 1, 1), count(1, 0, 1, 3), count(0, 1, 2, 2)]
        self.assertEqual(ask(*made, both(), *held(2))[5:-1], ask(*made, *held(2))[4:-1])

    def test_one_score_that_differs_is_enough(self):
        made = [begin(2), count(0, 0, 1, 1), count(0, 1, 1, 2), count(1, 1, 1, 2)]
        self.assertEqual(last(*made, both()), [1, 1])
        self.assertEqual(last(*made, count(1, 0, 1, 2), both()), [0, 0])
        self.assertEqual(last(*made, count(1, 0, 0, 1), both()), [0, 0])
        self.assertEqual(last(*made, count(1, 0, 2, 2), both()), [1, 1])


class Merge(unittest.TestCase):
    MADE = [
        begin(3), value(0, 1, 2), value(1, 2, 3), value(2, 3, 4),
        count(0, 0, 1, 2), count(0, 1, 3, 4), count(0, 2, 5, 6),
        count(1, 0, 10, 20), count(1, 1, 30, 40), count(1, 2, 50, 59),
    ]

    def test_those_with_b_have_a_now_in_both_groups(self):
        self.assertEqual(
            ask(*self.MADE, merge(0, 2), *held(3))[10:],
            [[0], [6, 8], [3, 4], [0, 0], [60, 79], [30, 40], [0, 0], [3, 1, 2, 2, 3, 3, 4]],
        )
        self.assertEqual(
            ask(*self.MADE, merge(2, 0), *held(3))[10:],
            [[0], [0, 0], [3, 4], [6, 8], [0, 0], [30, 40], [60, 79], [3, 1, 2, 2, 3, 3, 4]],
        )

    def test_the_numbers_stay(self):
        self.assertEqual(
            ask(*self.MADE, setto(0), values(), merge(1, 0), values(), both(), values())[11:],
            [
                [3, 1, 3, 3, 7, 5, 11], [0], [3, 1, 3, 3, 7, 5, 11],
                # 44 of 110, 55 of 120; nobody has score 0 any more
                [0, 0], [3, 1, 3, 2, 5, 11, 24],
            ],
        )

    def test_the_people_stay_and_the_mean_goes_with_the_score(self):
        self.assertEqual(
            ask(*self.MADE, people(0), meanall(0), merge(0, 2), people(0), meanall(0), share(0, 0), share(0, 2))[10:],
            # 3/2 + 14/3 + 33/4 over 21; then 14/2 + 14/3 over 21
            [[21, 9], [0, 173, 252], [0], [21, 9], [0, 5, 9], [0, 3, 7], [-33]],
        )

    def test_a_score_without_people(self):
        made = [begin(2), value(0, 1, 2), value(1, 1, 3), count(0, 0, 3, 4), count(1, 0, 5, 6)]
        self.assertEqual(
            ask(*made, merge(0, 1), *held(2))[5:], [[0], [3, 4], [0, 0], [5, 6], [0, 0], [2, 1, 2, 1, 3]],
        )
        self.assertEqual(
            ask(*made, merge(1, 0), *held(2))[5:], [[0], [0, 0], [3, 4], [0, 0], [5, 6], [2, 1, 2, 1, 3]],
        )
        self.assertEqual(ask(begin(2), merge(0, 1), *held(2))[1:], [[0]] + [[0, 0]] * 4 + [[2, 0, 1, 0, 1]])

    def test_full_cells_go_with_a_score_without_people(self):
        made = [begin(2), count(0, 1, 99, 99), count(1, 1, 99, 99)]
        self.assertEqual(ask(*made, merge(0, 1), cell(0, 0), cell(1, 0))[3:], [[0], [99, 99], [99, 99]])

    def test_up_to_99(self):
        for g in (0, 1):
            for first, second in (((60, 1), (39, 1)), ((1, 60), (1, 39)), ((98, 99), (1, 0)), ((0, 50), (99, 49))):
                made = [begin(2), count(g, 0, *first), count(g, 1, *second)]
                told = [first[0] + second[0], first[1] + second[1]]
                self.assertEqual(ask(*made, merge(0, 1), cell(g, 0), cell(g, 1))[3:], [[0], told, [0, 0]])
                self.assertEqual(ask(*made, merge(1, 0), cell(g, 1), cell(g, 0))[3:], [[0], told, [0, 0]])

    def test_past_99(self):
        for g in (0, 1):
            for first, second in (
                ((60, 1), (40, 1)), ((1, 60), (1, 40)), ((99, 0), (1, 0)), ((0, 1), (0, 99)), ((99, 99), (99, 99)),
            ):
                made = [
                    begin(2), value(0, 1, 2), count(1 - g, 0, 7, 8), count(1 - g, 1, 9, 10),
                    count(g, 0, *first), count(g, 1, *second),
                ]
                before = ask(*made, *held(2))[6:]
                for refused in (merge(0, 1), merge(1, 0)):
                    self.assertEqual(ask(*made, refused, *held(2))[6:], [[-28]] + before)

    def test_so_and_not_so_are_not_added_up(self):
        made = [begin(2), count(0, 0, 50, 50), count(0, 1, 49, 49), count(1, 0, 49, 0), count(1, 1, 50, 0)]
        self.assertEqual(ask(*made, merge(0, 1), cell(0, 0), cell(1, 0))[5:], [[0], [99, 99], [99, 0]])

    def test_other_scores_have_no_part_in_it(self):
        made = [begin(4), count(0, 0, 50, 50), count(0, 1, 49, 49), count(0, 2, 99, 99), count(1, 3, 99, 99)]
        self.assertEqual(
            ask(*made, merge(1, 0), cell(0, 1), cell(0, 2), cell(1, 3))[5:], [[0], [99, 99], [99, 99], [99, 99]],
        )

    def test_merged_one_behind_another(self):
        made = [begin(4)] + [count(g, s, s + 1, 20 * s + g) for g in (0, 1) for s in range(4)]
        self.assertEqual(
            ask(*made, merge(3, 0), merge(3, 1), merge(3, 2), merge(2, 3), cell(0, 3), cell(0, 2), cell(1, 2))[9:],
            [[0], [0], [-28], [-28], [7, 80], [3, 40], [3, 41]],
        )

    def test_a_score_can_get_people_again(self):
        self.assertEqual(
            ask(*self.MADE, merge(0, 1), count(0, 1, 2, 2), cell(0, 0), cell(0, 1), merge(1, 0), cell(0, 1))[12:],
            [[4, 6], [2, 2], [0], [6, 8]],
        )

    def test_no_such_score(self):
        before = ask(*self.MADE, *held(3))[10:]
        for a, b in ((3, 0), (0, 3), (GREATEST, 0), (1, GREATEST), (3, 4)):
            self.assertEqual(ask(*self.MADE, merge(a, b), *held(3))[10:], [[-2]] + before)
        self.assertEqual(ask(begin(1), merge(0, 1), merge(1, 0)), [[0], [-2], [-2]])

    def test_the_same_score(self):
        before = ask(*self.MADE, *held(3))[10:]
        for s in range(3):
            self.assertEqual(ask(*self.MADE, merge(s, s), *held(3))[10:], [[-22]] + before)
        self.assertEqual(ask(begin(1), merge(0, 0)), [[0], [-22]])

    def test_no_such_comes_ahead_of_the_same(self):
        for s in (3, 4, GREATEST):
            self.assertEqual(last(*self.MADE, merge(s, s)), [-2])

    def test_the_same_comes_ahead_of_too_many(self):
        self.assertEqual(last(begin(1), count(0, 0, 99, 99), merge(0, 0)), [-22])
        self.assertEqual(last(begin(2), count(1, 1, 50, 50), merge(1, 1)), [-22])

    def test_no_such_comes_ahead_of_too_many(self):
        made = [begin(2)] + [count(g, s, 99, 99) for g in (0, 1) for s in (0, 1)]
        self.assertEqual(ask(*made, merge(0, 2), merge(2, 1), merge(0, 1))[5:], [[-2], [-2], [-28]])


if __name__ == "__main__":
    unittest.main()
