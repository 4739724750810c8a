"""Promise 2, its calls value, share, istrue, meanyes, meanno."""

import unittest

from calls import GREATEST, ask, begin, count, istrue, last, meanno, meanyes, share, value


def number_of(*calls):
    """The number of score 0 behind the calls, seen through one person who has it."""
    return last(*calls, count(0, 0, 1, 0), meanyes(0))


class Value(unittest.TestCase):
    def test_it_becomes_the_number(self):
        self.assertEqual(last(begin(1), value(0, 2, 3)), [0])
        self.assertEqual(number_of(begin(1), value(0, 2, 3)), [0, 2, 3])

    def test_the_edges_of_a_and_b(self):
        for a, b, number in (
            (0, 1, [0, 0, 1]), (1, 1, [0, 1, 1]), (0, 100, [0, 0, 1]), (100, 100, [0, 1, 1]),
            (99, 100, [0, 99, 100]), (1, 100, [0, 1, 100]), (50, 100, [0, 1, 2]), (36, 84, [0, 3, 7]),
        ):
            self.assertEqual(ask(begin(1), value(0, a, b)), [[0], [0]])
            self.assertEqual(number_of(begin(1), value(0, a, b)), number)

    def test_set_again_it_replaces(self):
        self.assertEqual(number_of(begin(1), value(0, 2, 3), value(0, 1, 4)), [0, 1, 4])

    def test_it_sets_one_score_alone_in_both_groups(self):
        for g in (0, 1):
            asked = [begin(3), value(1, 1, 3)]
            for s in range(3):
                asked += [count(g, s, 1, 0), meanyes(g), count(g, s, 0, 0)]
            seen = ask(*asked)
            self.assertEqual([seen[3], seen[6], seen[9]], [[0, 0, 1], [0, 1, 3], [0, 0, 1]])

    def test_no_such_score(self):
        for s in (3, 4, GREATEST):
            self.assertEqual(last(begin(3), value(s, 1, 2)), [-2])

    def test_not_right(self):
        for a, b in (
            (0, 0), (1, 0), (0, 101), (101, 101), (2, 1), (100, 99), (101, 100),
            (GREATEST, 100), (0, GREATEST), (GREATEST, GREATEST), (GREATEST, 0),
        ):
            self.assertEqual(last(begin(1), value(0, a, b)), [-22])

    def test_no_such_comes_ahead_of_not_right(self):
        for s, a, b in ((1, 0, 0), (1, 2, 1), (1, 0, 101), (GREATEST, GREATEST, GREATEST)):
            self.assertEqual(last(begin(1), value(s, a, b)), [-2])

    def test_refused_it_changes_nothing(self):
        for refused in (value(0, 0, 0), value(0, 3, 2), value(0, 1, 101), value(1, 1, 3)):
            self.assertEqual(number_of(begin(1), value(0, 1, 2), refused), [0, 1, 2])


class Share(unittest.TestCase):
    def test_of_those_with_it_those_who_turned_out_so(self):
        self.assertEqual(last(begin(2), count(1, 1, 2, 3), share(1, 1)), [0, 2, 5])

    def test_it_is_made_lower(self):
        for y, n, told in (
            (2, 4, [1, 3]), (6, 4, [3, 5]), (99, 99, [1, 2]), (33, 99, [1, 4]), (98, 99, [98, 197]), (1, 99, [1, 100]),
        ):
            self.assertEqual(last(begin(1), count(0, 0, y, n), share(0, 0)), [0] + told)

    def test_all_or_nobody_turned_out_so(self):
        for many in (1, 2, 99):
            self.assertEqual(last(begin(1), count(0, 0, many, 0), share(0, 0)), [0, 1, 1])
            self.assertEqual(last(begin(1), count(0, 0, 0, many), share(0, 0)), [0, 0, 1])

    def test_each_group_and_score_has_its_own(self):
        self.assertEqual(
            ask(
                begin(2), count(0, 0, 1, 1), count(0, 1, 1, 2), count(1, 0, 1, 3), count(1, 1, 1, 4),
                share(0, 0), share(0, 1), share(1, 0), share(1, 1),
            )[5:],
            [[0, 1, 2], [0, 1, 3], [0, 1, 4], [0, 1, 5]],
        )

    def test_the_number_has_no_part_in_it(self):
        self.assertEqual(last(begin(1), value(0, 1, 7), count(0, 0, 1, 1), share(0, 0)), [0, 1, 2])

    def test_no_such_group_or_score(self):
        for g, s in ((2, 0), (GREATEST, 0), (0, 2), (1, GREATEST), (2, 2)):
            self.assertEqual(last(begin(2), count(0, 0, 1, 1), share(g, s)), [-2])

    def test_nobody_is_there(self):
        self.assertEqual(
            ask(begin(2), share(0, 0), count(0, 0, 1, 1), share(0, 1), share(1, 0), count(0, 0, 0, 0), share(0, 0)),
            [[0], [-33], [2], [-33], [-33], [0], [-33]],
        )


class IsTrue(unittest.TestCase):
    def test_each_share_is_the_number(self):
        self.assertEqual(
            ask(
                begin(2), count(0, 0, 1, 2), count(0, 1, 30, 10), value(0, 1, 3), istrue(0), value(1, 3, 4), istrue(0),
            ),
            [[0], [3], [40], [0], [0], [0], [1]],
        )

    def test_one_score_that_is_off_is_enough(self):
        for off in range(4):
            asked = [begin(4)]
            for s in range(4):
                asked += [count(1, s, 1, s), value(s, 1, s + 1)]
            self.assertEqual(last(*asked, istrue(1)), [1])
            self.assertEqual(last(*asked, value(off, 1, 50), istrue(1)), [0])

    def test_a_little_off_either_way_is_off(self):
        for y, n, wanted in ((49, 51, [0]), (50, 50, [1]), (51, 49, [0])):
            self.assertEqual(last(begin(1), value(0, 1, 2), count(0, 0, y, n), istrue(0)), wanted)

    def test_a_score_without_people_is_not_asked_for(self):
        self.assertEqual(last(begin(2), value(0, 1, 2), value(1, 2, 3), count(0, 0, 4, 4), istrue(0)), [1])

    def test_an_empty_group_is_true(self):
        self.assertEqual(ask(begin(1), istrue(0), value(0, 1, 1), istrue(1)), [[0], [1], [0], [1]])

    def test_numbers_of_nought_and_one(self):
        self.assertEqual(
            ask(
                begin(2), value(1, 1, 1), count(0, 0, 0, 9), count(0, 1, 9, 0), istrue(0),
                count(1, 0, 1, 9), istrue(1), count(1, 0, 0, 9), count(1, 1, 9, 1), istrue(1),
            ),
            [[0], [0], [9], [9], [1], [10], [0], [9], [10], [0]],
        )

    def test_true_in_one_group_alone(self):
        self.assertEqual(
            ask(begin(1), value(0, 1, 2), count(0, 0, 1, 1), count(1, 0, 1, 2), istrue(0), istrue(1))[4:],
            [[1], [0]],
        )

    def test_no_such_group(self):
        for g in (2, 3, GREATEST):
            self.assertEqual(last(begin(4), istrue(g)), [-2])


class Means(unittest.TestCase):
    def test_of_those_who_turned_out_so_and_not_so(self):
        self.assertEqual(
            ask(
                begin(3), value(0, 1, 4), value(1, 1, 2), value(2, 2, 3),
                count(1, 0, 1, 3), count(1, 1, 2, 2), count(1, 2, 3, 1), meanyes(1), meanno(1),
            )[7:],
            # 1/4 + 2/2 + 6/3 over 6, and 3/4 + 2/2 + 2/3 over 6
            [[0, 13, 24], [0, 29, 72]],
        )

    def test_one_score_for_all(self):
        self.assertEqual(
            ask(begin(1), value(0, 4, 6), count(0, 0, 7, 99), meanyes(0), meanno(0))[3:], [[0, 2, 3], [0, 2, 3]],
        )

    def test_numbers_of_nought_and_one(self):
        self.assertEqual(
            ask(begin(2), value(1, 1, 1), count(0, 0, 0, 5), count(0, 1, 6, 0), meanyes(0), meanno(0))[4:],
            [[0, 1, 1], [0, 0, 1]],
        )
        self.assertEqual(
            ask(begin(2), value(1, 1, 1), count(0, 0, 2, 3), count(0, 1, 6, 1), meanyes(0), meanno(0))[4:],
            [[0, 3, 4], [0, 1, 4]],
        )

    def test_lowers_with_nothing_in_common(self):
        numbers = [value(0, 1, 100), value(1, 98, 99), value(2, 1, 97), value(3, 90, 91)]
        counts = [count(0, s, 99, 99 - s) for s in range(4)]
        self.assertEqual(
            ask(begin(4), *numbers, *counts, meanyes(0), meanno(0))[9:],
            [[0, 174706373, 349549200], [0, 174725191, 351351000]],
        )

    def test_a_score_without_people_has_no_part(self):
        self.assertEqual(
            ask(begin(2), value(0, 1, 2), value(1, 1, 97), count(0, 0, 2, 3), meanyes(0), meanno(0))[4:],
            [[0, 1, 2], [0, 1, 2]],
        )

    def test_each_group_has_its_own(self):
        self.assertEqual(
            ask(
                begin(2), value(0, 1, 3), value(1, 1, 2), count(0, 0, 1, 0), count(0, 1, 0, 1),
                count(1, 0, 0, 1), count(1, 1, 1, 0), meanyes(0), meanno(0), meanyes(1), meanno(1),
            )[7:],
            [[0, 1, 3], [0, 1, 2], [0, 1, 2], [0, 1, 3]],
        )

    def test_nobody_turned_out_so(self):
        self.assertEqual(
            ask(begin(2), value(0, 1, 3), count(0, 0, 0, 4), meanyes(0), meanno(0))[3:], [[-33], [0, 1, 3]],
        )

    def test_nobody_turned_out_not_so(self):
        self.assertEqual(
            ask(begin(2), value(0, 1, 3), count(0, 0, 4, 0), meanyes(0), meanno(0))[3:], [[0, 1, 3], [-33]],
        )

    def test_an_empty_group(self):
        self.assertEqual(
            ask(begin(1), value(0, 1, 3), count(0, 0, 4, 4), meanyes(1), meanno(1))[3:], [[-33], [-33]],
        )

    def test_no_such_group(self):
        for g in (2, 3, GREATEST):
            self.assertEqual(ask(begin(4), meanyes(g), meanno(g)), [[0], [-2], [-2]])


if __name__ == "__main__":
    unittest.main()
