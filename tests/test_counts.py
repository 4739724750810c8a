"""Promise 1: begin, count, cell, people."""

import unittest

from calls import GREATEST, ask, begin, cell, count, last, meanyes, people, share, value


class Begin(unittest.TestCase):
    def test_one_to_four_scores_are_let(self):
        for k in (1, 2, 3, 4):
            self.assertEqual(last(begin(k)), [0])

    def test_other_numbers_of_scores_are_refused(self):
        for k in (0, 5, 6, 100, GREATEST):
            self.assertEqual(last(begin(k)), [-22])

    def test_there_are_just_so_many_scores(self):
        for k in (1, 2, 3, 4):
            asked = [begin(k)] + [cell(g, s) for g in (0, 1) for s in range(5)]
            row = [[0, 0]] * k + [[-2]] * (5 - k)
            self.assertEqual(ask(*asked), [[0]] + row + row)

    def test_nobody_is_there(self):
        self.assertEqual(ask(begin(4), people(0), people(1)), [[0], [0, 0], [0, 0]])

    def test_each_number_is_nought(self):
        for k in (1, 4):
            for s in range(k):
                self.assertEqual(last(begin(k), count(1, s, 3, 0), meanyes(1)), [0, 0, 1])

    def test_a_second_begin_starts_anew(self):
        self.assertEqual(
            ask(
                begin(2), count(0, 0, 5, 6), count(1, 1, 7, 8), value(0, 1, 2), value(1, 2, 3),
                begin(2), people(0), people(1), cell(0, 0), cell(1, 1), share(0, 0),
                count(0, 0, 1, 0), meanyes(0), count(0, 1, 1, 0), meanyes(0),
            ),
            [
                [0], [11], [15], [0], [0],
                [0], [0, 0], [0, 0], [0, 0], [0, 0], [-33],
                [1], [0, 0, 1], [1], [0, 0, 1],
            ],
        )

    def test_a_second_begin_can_take_and_give_scores(self):
        self.assertEqual(
            ask(begin(4), begin(1), cell(0, 1), begin(3), cell(0, 2), cell(0, 3)),
            [[0], [0], [-2], [0], [0, 0], [-2]],
        )

    def test_a_refused_begin_leaves_what_was_there(self):
        for k in (0, 5, GREATEST):
            self.assertEqual(
                ask(begin(2), count(0, 1, 5, 6), value(1, 1, 2), begin(k), cell(0, 1), meanyes(0), cell(0, 2)),
                [[0], [11], [0], [-22], [5, 6], [0, 1, 2], [-2]],
            )


class Count(unittest.TestCase):
    def test_answers_how_many_that_are(self):
        self.assertEqual(last(begin(1), count(0, 0, 3, 4)), [7])
        self.assertEqual(last(begin(1), count(0, 0, 0, 0)), [0])
        self.assertEqual(last(begin(1), count(0, 0, 99, 0)), [99])
        self.assertEqual(last(begin(1), count(0, 0, 0, 99)), [99])
        self.assertEqual(last(begin(1), count(1, 0, 99, 99)), [198])

    def test_it_tells_one_cell_alone(self):
        for g in (0, 1):
            for s in range(4):
                asked = [begin(4), count(g, s, 2, 5)] + [cell(h, t) for h in (0, 1) for t in range(4)]
                wanted = [[2, 5] if (h, t) == (g, s) else [0, 0] for h in (0, 1) for t in range(4)]
                self.assertEqual(ask(*asked), [[0], [7]] + wanted)

    def test_told_again_it_replaces(self):
        self.assertEqual(
            ask(begin(1), count(0, 0, 3, 4), count(0, 0, 1, 0), cell(0, 0), count(0, 0, 0, 0), cell(0, 0)),
            [[0], [7], [1], [1, 0], [0], [0, 0]],
        )

    def test_no_such_group_or_score(self):
        for g, s in ((2, 0), (3, 1), (GREATEST, 0), (0, 2), (1, 3), (0, GREATEST), (GREATEST, GREATEST)):
            self.assertEqual(last(begin(2), count(g, s, 1, 1)), [-2])

    def test_more_than_99(self):
        for y, n in ((100, 0), (0, 100), (100, 100), (GREATEST, 0), (0, GREATEST), (GREATEST, GREATEST)):
            self.assertEqual(last(begin(2), count(1, 1, y, n)), [-22])

    def test_no_such_comes_ahead_of_not_right(self):
        for g, s, y, n in ((2, 0, 100, 0), (0, 2, 0, 100), (GREATEST, GREATEST, GREATEST, GREATEST)):
            self.assertEqual(last(begin(2), count(g, s, y, n)), [-2])

    def test_refused_it_changes_nothing(self):
        for refused in (count(0, 0, 100, 1), count(0, 0, 1, 100), count(2, 0, 1, 1), count(0, 1, 1, 1)):
            self.assertEqual(
                ask(begin(1), count(0, 0, 3, 4), count(1, 0, 5, 6), refused, cell(0, 0), cell(1, 0))[4:],
                [[3, 4], [5, 6]],
            )


class Cell(unittest.TestCase):
    def test_so_stands_ahead_of_not_so(self):
        self.assertEqual(last(begin(1), count(0, 0, 99, 0), cell(0, 0)), [99, 0])
        self.assertEqual(last(begin(1), count(0, 0, 0, 99), cell(0, 0)), [0, 99])

    def test_no_such_group_or_score(self):
        for g, s in ((2, 0), (GREATEST, 0), (0, 3), (1, 3), (1, GREATEST), (2, 3), (GREATEST, GREATEST)):
            self.assertEqual(last(begin(3), cell(g, s)), [-2])


class People(unittest.TestCase):
    def test_all_of_the_group_then_those_who_turned_out_so(self):
        self.assertEqual(
            ask(begin(3), count(0, 0, 1, 10), count(0, 2, 2, 20), count(1, 1, 4, 40), people(0), people(1))[4:],
            [[33, 3], [44, 4]],
        )

    def test_a_full_group(self):
        full = [count(1, s, 99, 99) for s in range(4)]
        self.assertEqual(ask(begin(4), *full, people(1), people(0))[5:], [[792, 396], [0, 0]])

    def test_nobody_turned_out_so_or_nobody_not_so(self):
        self.assertEqual(last(begin(2), count(0, 0, 0, 7), count(0, 1, 0, 2), people(0)), [9, 0])
        self.assertEqual(last(begin(2), count(0, 0, 7, 0), count(0, 1, 2, 0), people(0)), [9, 9])

    def test_no_such_group(self):
        for g in (2, 3, GREATEST):
            self.assertEqual(last(begin(4), people(g)), [-2])


if __name__ == "__main__":
    unittest.main()
