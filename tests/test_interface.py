"""What the document says ahead of the promises, and of the interface: lines, refusals, and how answers stand."""

import ast
import contextlib
import inspect
import io
import pathlib
import unittest

import evenscores
from calls import (
    GREATEST, ask, bases, begin, both, cell, count, even, everything, istrue, last, meanall, meanno, meanyes, merge,
    off, people, setto, share, value, values,
)
from evenscores.groups import answers

ORDINARY = [
    0, 2, 1, 0, 0, 3, 1, 1, 1, 1, 2, 6, 2, 0, 0, 3, 0, 4, 0, 6, 8, 5, 0, 0, 6, 0, 6, 1, 4, 1, 1, 4, 7, 0, 7, 1, 8, 1,
]
ORDINARY_ANSWERS = [
    1, 0, 1, 4, 1, 8, 2, 3, 1, 2, 4, 3, 1, 0, 3, 0, 3, 4, 1, 1, 1, 0, 1, 0, 3, 0, 3, 4, 3, 0, 1, 4, 3, 0, 1, 4,
]

# Every call of the interface, those that change something and those that ask among each other.
WHOLE = [
    0, 3, 1, 0, 0, 1, 3, 1, 0, 1, 2, 1, 1, 1, 0, 2, 6, 1, 1, 2, 3, 3, 16, 11, 0, 16, 6, 1, 9, 0, 10, 0, 7, 0, 8, 0,
    14, 15, 12, 16, 2, 1, 2, 5, 1, 2, 13, 1, 2, 3, 1, 4, 2, 25, 100, 9, 1, 11, 1, 16, 13, 0, 0, 11, 2, 0, 2, 16, 15,
]
WHOLE_ANSWERS = [
    1, 0, 1, 4, 1, 3, 1, 8, 1, 6, 7, 3, 0, 1, 0, 1, 0, 1, 1, 0, 7, 3, 1, 4, 2, 3, 0, 1, 1, 0, 3, 0, 3, 7, 3, 0, 17, 84,
    3, 0, 19, 36, 3, 0, 17, 48, 2, 0, 0, 5, 0, 3, 7, 5, 14, 2, 1, 1, 7, 3, 1, 4, 2, 3, 1, 2, 2, 3, 3, 3, 0, 1, 2, 1, 0,
    2, 14, 5, 1, 0, 3, 0, 3, 7, 1, 0, 7, 3, 1, 4, 1, 2, 1, 4, 1, -22, 1, -2, 1, 0, 5, 2, 0, 1, 0, 1, 1, -33,
]

SHOWN = everything(2)


class Unchangeable(list):
    """A list that fails at every try to change it, though it be put back later."""

    def refuse(self, *args, **kwargs):
        raise AssertionError("what is handed in was changed")

    __setitem__ = __delitem__ = __iadd__ = __imul__ = refuse
    append = clear = extend = insert = pop = remove = reverse = sort = refuse


class Lists(unittest.TestCase):
    def test_a_list_without_calls(self):
        self.assertEqual(answers([]), [])

    def test_several_calls_behind_one_another(self):
        self.assertEqual(answers(list(ORDINARY)), ORDINARY_ANSWERS)

    def test_every_call_of_the_interface(self):
        self.assertEqual(answers(list(WHOLE)), WHOLE_ANSWERS)

    def test_each_call_by_its_own_number(self):
        self.assertEqual(answers([0, 1]), [1, 0])
        self.assertEqual(answers([0, 1, 1, 0, 0, 3, 5]), [1, 0, 1, 8])
        self.assertEqual(answers([0, 1, 1, 0, 0, 3, 5, 2, 0, 0]), [1, 0, 1, 8, 2, 3, 5])
        self.assertEqual(answers([0, 1, 1, 0, 0, 3, 5, 3, 0]), [1, 0, 1, 8, 2, 8, 3])
        self.assertEqual(answers([0, 1, 4, 0, 1, 2]), [1, 0, 1, 0])
        self.assertEqual(answers([0, 1, 1, 0, 0, 3, 5, 5, 0, 0]), [1, 0, 1, 8, 3, 0, 3, 8])
        self.assertEqual(answers([0, 1, 1, 0, 0, 3, 5, 6, 0]), [1, 0, 1, 8, 1, 0])
        means = [1, 0, 1, 0, 1, 3, 1, 5, 3, 0, 1, 2]
        self.assertEqual(answers([0, 2, 4, 0, 1, 2, 1, 0, 0, 3, 0, 1, 0, 1, 0, 5, 7, 0]), means)
        self.assertEqual(answers([0, 2, 4, 0, 1, 2, 1, 0, 0, 0, 3, 1, 0, 1, 5, 0, 8, 0]), means)

    def test_each_later_call_by_its_own_number(self):
        made = [0, 2, 4, 0, 1, 3, 1, 0, 0, 1, 3, 1, 1, 1, 2, 2]
        told = [1, 0, 1, 0, 1, 4, 1, 4]
        for call, answered in (
            ([9, 0], [3, 0, 1, 3]), ([10, 0], [3, 0, 7, 36]), ([11, 0], [1, 0]), ([12], [2, 1, 1]),
            ([13, 0, 1], [1, 0]), ([14], [2, 0, 0]), ([15], [5, 0, 1, 4, 1, 2]), ([16], [5, 2, 1, 3, 0, 1]),
        ):
            self.assertEqual(answers(made + call), told + answered)
            # What comes behind it is read at the right place.
            self.assertEqual(answers(made + call + [3, 1]), told + answered + [2, 4, 2])

    def test_a_refusal_is_its_number_alone(self):
        self.assertEqual(answers([2, 0, 0]), [1, -11])
        self.assertEqual(answers([0, 0]), [1, -22])
        self.assertEqual(answers([0, 1, 2, 2, 0, 3, 2, 5, 0, 1, 7, 2]), [1, 0, 1, -2, 1, -2, 1, -2, 1, -2])
        self.assertEqual(answers([0, 1, 5, 0, 0, 7, 0, 8, 1]), [1, 0, 1, -33, 1, -33, 1, -33])
        self.assertEqual(answers([9, 0, 10, 0, 11, 0, 12, 13, 0, 1, 14, 15, 16]), [1, -11] * 8)
        self.assertEqual(
            answers([0, 1, 9, 2, 10, 2, 11, 2, 13, 0, 1, 13, 0, 0, 9, 0, 10, 0, 15]),
            [1, 0, 1, -2, 1, -2, 1, -2, 1, -2, 1, -22, 1, -33, 1, -33, 1, -33],
        )
        self.assertEqual(answers([0, 2, 1, 0, 0, 99, 0, 1, 0, 1, 1, 0, 13, 0, 1]), [1, 0, 1, 99, 1, 1, 1, -28])

    def test_forty_calls_and_two_hundred_numbers(self):
        self.assertEqual(answers([0, 4] + [3, 1] * 39), [1, 0] + [2, 0, 0] * 39)
        self.assertEqual(answers([0, 4] + [16] * 39), [1, 0] + [9, 4, 0, 1, 0, 1, 0, 1, 0, 1] * 39)
        self.assertEqual(
            answers([0, 4, 3, 0, 3, 1, 0, 4] + [1, 1, 3, 99, 98] * 38 + [3, 1]),
            [1, 0, 2, 0, 0, 2, 0, 0, 1, 0] + [1, 197] * 38 + [2, 197, 99],
        )

    def test_all_are_plain_whole_numbers(self):
        for asked in ([], ORDINARY, WHOLE, [6, 0], [0, 1, 6, 0, 6, 1, 0, 0], [0, 1, 11, 0, 12, 14, 15, 16]):
            given_back = answers(list(asked))
            self.assertIs(type(given_back), list)
            for number in given_back:
                self.assertIs(type(number), int)


class BeforeBegin(unittest.TestCase):
    OTHERS = [
        count(0, 0, 1, 1), cell(0, 0), people(0), value(0, 1, 2), share(0, 0), istrue(0), meanyes(0), meanno(0),
        meanall(0), off(0), setto(0), both(), merge(0, 1), even(), bases(), values(),
    ]

    def test_every_other_call_is_refused(self):
        for other in self.OTHERS:
            self.assertEqual(ask(other), [[-11]])
        self.assertEqual(ask(*self.OTHERS), [[-11]] * 16)
        self.assertEqual(sorted(other[0] for other in self.OTHERS), list(range(1, 17)))

    def test_it_comes_ahead_of_every_other_refusal(self):
        for other in (
            count(2, 9, 100, 100), cell(2, 9), people(2), value(9, 2, 1), share(2, 9), istrue(2), meanyes(2), meanno(2),
            meanall(2), off(2), setto(2), both(), merge(0, 0), merge(9, 9), even(), bases(), values(),
        ):
            self.assertEqual(ask(other), [[-11]])
            self.assertEqual(ask([other[0]] + [GREATEST] * (len(other) - 1)), [[-11]])

    def test_a_refused_begin_is_none(self):
        for k in (0, 5, GREATEST):
            self.assertEqual(ask(begin(k), *self.OTHERS), [[-22]] + [[-11]] * 16)

    def test_what_was_refused_is_not_kept(self):
        self.assertEqual(
            ask(count(0, 0, 3, 4), value(0, 1, 2), begin(1), cell(0, 0), count(0, 0, 1, 0), meanyes(0)),
            [[-11], [-11], [0], [0, 0], [1], [0, 0, 1]],
        )


class Refused(unittest.TestCase):
    def test_nothing_has_changed_behind_any_refusal(self):
        made = [begin(2), count(0, 0, 3, 4), count(1, 1, 5, 6), value(0, 1, 2), value(1, 2, 3)]
        before = ask(*made, *SHOWN)[5:]
        for refused, number in (
            (begin(0), -22), (begin(5), -22), (begin(GREATEST), -22),
            (count(2, 0, 1, 1), -2), (count(0, 2, 1, 1), -2), (count(0, 0, 100, 1), -22), (count(1, 1, 1, 100), -22),
            (count(0, 0, GREATEST, GREATEST), -22), (cell(2, 0), -2), (cell(0, 2), -2), (people(2), -2),
            (value(2, 1, 3), -2), (value(0, 1, 0), -22), (value(1, 1, 101), -22), (value(0, 2, 1), -22),
            (share(2, 0), -2), (share(0, 2), -2), (share(0, 1), -33),
            (istrue(2), -2), (meanyes(2), -2), (meanno(2), -2), (meanall(2), -2), (meanall(GREATEST), -2),
            (off(2), -2), (off(GREATEST), -2), (setto(2), -2), (setto(GREATEST), -2),
            (merge(0, 2), -2), (merge(2, 1), -2), (merge(GREATEST, 0), -2), (merge(1, GREATEST), -2),
            (merge(GREATEST, GREATEST), -2), (merge(0, 0), -22), (merge(1, 1), -22),
        ):
            seen = ask(*made, refused, *SHOWN)
            self.assertEqual(seen[5], [number])
            self.assertEqual(seen[6:], before)

    def test_nothing_has_changed_behind_too_many(self):
        for full in ((0, 99, 0), (0, 0, 99), (1, 99, 0), (1, 0, 99)):
            made = [
                begin(2), value(0, 1, 2), value(1, 2, 3), count(0, 0, 1, 1), count(1, 0, 1, 1),
                count(full[0], 1, full[1], full[2]), count(1 - full[0], 1, 5, 6),
            ]
            for refused in (merge(0, 1), merge(1, 0)):
                self.assertEqual(ask(*made, refused, *SHOWN)[7:], [[-28]] + ask(*made, *SHOWN)[7:])

    def test_nothing_has_changed_behind_an_answer_that_there_are_none(self):
        for asked in (meanyes(1), meanno(1), meanall(1), off(1), bases(), share(1, 0)):
            made = [begin(2), count(0, 0, 3, 4), value(0, 1, 2)]
            self.assertEqual(last(*made, asked), [-33])
            self.assertEqual(ask(*made, asked, *SHOWN)[4:], ask(*made, *SHOWN)[3:])

    def test_asking_changes_nothing(self):
        made = [begin(2), count(0, 0, 3, 4), count(1, 1, 5, 6), value(0, 1, 2), value(1, 2, 3)]
        once = ask(*made, *SHOWN)[5:]
        for asked in SHOWN:
            self.assertEqual(ask(*made, asked, *SHOWN)[6:], once)


class HandedIn(unittest.TestCase):
    def test_it_stays_as_it_was(self):
        for calls in (ORDINARY, WHOLE):
            handed_in = list(calls)
            answers(handed_in)
            self.assertEqual(handed_in, calls)

    def test_it_is_not_changed_for_a_while_either(self):
        self.assertEqual(answers(Unchangeable(ORDINARY)), ORDINARY_ANSWERS)
        self.assertEqual(answers(Unchangeable(WHOLE)), WHOLE_ANSWERS)

    def test_a_second_time_gives_the_same(self):
        handed_in = list(WHOLE)
        self.assertEqual(answers(handed_in), answers(handed_in))
        self.assertEqual(answers(handed_in), WHOLE_ANSWERS)
        self.assertEqual(answers(ORDINARY), ORDINARY_ANSWERS)

    def test_nothing_is_kept_from_one_time_to_the_next(self):
        for calls in (ORDINARY, WHOLE):
            answers(list(calls))
            self.assertEqual(answers([2, 0, 0, 16]), [1, -11, 1, -11])
            self.assertEqual(answers([0, 2, 3, 0, 3, 1, 16]), [1, 0, 2, 0, 0, 2, 0, 0, 5, 2, 0, 1, 0, 1])

    def test_what_is_given_back_is_new_each_time(self):
        first = answers(ORDINARY)
        first.clear()
        self.assertEqual(answers(ORDINARY), ORDINARY_ANSWERS)
        empty = answers([])
        empty.append(1)
        self.assertEqual(answers([]), [])


class Package(unittest.TestCase):
    FILES = sorted(pathlib.Path(evenscores.__file__).parent.glob("*.py"))

    def test_the_function_has_its_name_and_argument(self):
        self.assertEqual(list(inspect.signature(answers).parameters), ["calls"])

    def test_it_prints_nothing(self):
        out = io.StringIO()
        err = io.StringIO()
        with contextlib.redirect_stdout(out), contextlib.redirect_stderr(err):
            answers(list(WHOLE))
        self.assertEqual((out.getvalue(), err.getvalue()), ("", ""))

    def test_it_imports_and_reads_nothing(self):
        for file in self.FILES:
            for node in ast.walk(ast.parse(file.read_text(encoding="ascii"))):
                self.assertNotIsInstance(node, (ast.Import, ast.ImportFrom))
                if isinstance(node, ast.Name):
                    self.assertNotIn(node.id, ("print", "open", "input", "eval", "exec", "__import__"))

    def test_sizes(self):
        for file in self.FILES:
            rows = file.read_text(encoding="ascii").splitlines()
            self.assertLessEqual(len(rows), 400)
            self.assertLessEqual(max(len(row) for row in rows), 120)
            self.assertNotIn("\t", "".join(rows))
            for node in ast.walk(ast.parse("\n".join(rows))):
                if isinstance(node, ast.FunctionDef):
                    self.assertLessEqual(node.end_lineno - node.lineno + 1, 40)


if __name__ == "__main__":
    unittest.main()
