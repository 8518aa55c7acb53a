"""What the interface says of numbers, lists, what is handed in and what is kept."""

import builtins
import contextlib
import io
import unittest
from unittest import mock

from borders.strips import answers
from calling import BY_TYPE, all_told, apart, keep, make, paint, same, set_cell, show, strip, swap, undo


def long_line():
    """A line with every call, refusals among them."""
    calls = []
    for colours, told_kinds, told_least in BY_TYPE[:2]:
        calls.extend([strip(2, list(colours)), keep(), paint(-1, 1, 5), set_cell(7, 0, 9)] + all_told())
        calls.extend([same(), make(3, -5), show(), swap(9, 8, 7, 6, 5, 4, 3, 2, 1, 0), show(), undo(), undo()])
    calls.extend([strip(0, []), paint(0, 9, 0), set_cell(2000, 0, 0), make(0, 2000), swap(1, 2, 3)])
    calls.extend([undo()] * 5)
    assert len(calls) == 40
    return [number for call in calls for number in call]


class Unchanging(list):
    """A list that refuses whatever would change it."""

    def refuse(self, *given, **named):
        raise AssertionError("what is handed in is changed")

    append = clear = extend = insert = pop = remove = reverse = sort = refuse
    __setitem__ = __delitem__ = __iadd__ = __imul__ = refuse


class Interface(unittest.TestCase):
    def test_calls_and_answers_are_written_as_told(self):
        calls = [4, 0, 0,
                 0, 1, 2, 1, 6, 1, 0, 0, 2, 2, 2,
                 1, 0, 0,
                 2, 0, 0,
                 3, 0, 0,
                 5, 3, -1, 0, 5, 0,
                 6, 3, 1, 1, 3, 0,
                 0, 1, 3, 1, 0,
                 6, 3, 0, 2, 0, 0,
                 4, 0, 0]
        self.assertEqual(answers(calls), [2, 1, 0,
                                          2, 3, 2,
                                          1, 3,
                                          6, 1, 0, 1, 0, 0, 0,
                                          1, 2,
                                          3, 2, 3, 2,
                                          2, 3, 0,
                                          1, -1,
                                          1, -1,
                                          7, 6, 0, 1, 2, 3, 4, 5])

    def test_the_other_calls_and_answers_are_written_as_told(self):
        calls = [12, 0, 0,
                 10, 0, 0,
                 11, 0, 0,
                 0, 1, 2, 1, 6, 1, 2, 3, 4, 5, 6,
                 9, 0, 0,
                 7, 2, 1, -1, 0,
                 12, 0, 0,
                 10, 0, 0,
                 8, 10, 0, 3, 2, 1, 4, 5, 6, 7, 8, 9, 0,
                 12, 0, 0,
                 8, 0, 0,
                 8, 12, 1, 2, 3, 4, 5, 6, 7, 8, 9, 0, 1, 2, 0,
                 7, 2, 4, 0, 0,
                 11, 0, 0,
                 11, 0, 0,
                 10, 0, 0,
                 11, 0, 0,
                 11, 0, 0,
                 10, 0, 0]
        self.assertEqual(answers(calls), [3, 1, 1, 0,
                                          3, 1, 0, 0,
                                          1, -7,
                                          2, 3, 0,
                                          1, 3,
                                          2, 3, 2,
                                          8, 3, 2, 1, 2, 1, 4, 5, 4,
                                          1, 0,
                                          2, 3, 2,
                                          8, 3, 2, 3, 2, 3, 4, 5, 4,
                                          1, -1,
                                          1, -1,
                                          1, -1,
                                          2, 3, 2,
                                          2, 3, 0,
                                          3, 1, 0, 0,
                                          2, 1, 6,
                                          1, -7,
                                          1, 0])

    def test_no_answer_but_a_refusal_is_below_0(self):
        for answer in apart(answers(long_line())):
            if min(answer) < 0:
                self.assertIn(answer, ([-1], [-7]))

    def test_whole_numbers_in_a_list(self):
        given = answers(long_line())
        self.assertIs(type(given), list)
        self.assertEqual({type(number) for number in given}, {int})

    def test_what_is_handed_in_stays(self):
        calls = Unchanging(long_line())
        answers(calls)
        self.assertEqual(list(calls), long_line())

    def test_a_second_time_is_as_the_first(self):
        first = answers(long_line())
        self.assertEqual(answers([1, 0, 0] + [3, 0, 0] + [4, 0, 0]), [1, 1, 1, 6, 2, 1, 0])
        second = answers(long_line())
        self.assertEqual(second, first)
        second.clear()
        self.assertEqual(answers(long_line()), first)

    def test_the_strip_of_one_line_is_not_that_of_the_next(self):
        answers(strip(1, [1, 2, 3]))
        self.assertEqual(answers(paint(0, 0, 1)), [3, 1, 1, 6])
        answers(set_cell(0, 0, 5))
        self.assertEqual(answers([2, 0, 0]), [8, 1, 0, 1, 0, 1, 0, 1, 0])
        self.assertEqual(answers(show()), [3, 1, 1, 0])

    def test_neither_the_kept_one_nor_what_could_be_undone_is_there_the_next_time(self):
        answers(strip(1, [1, 2]) + keep() + swap(*[3] * 10) + make(1, 1))
        self.assertEqual(answers(same() + undo() + show()), [3, 1, 0, 0, 1, -7, 3, 1, 1, 0])

    def test_what_is_given_back_is_not_what_is_kept(self):
        line = strip(1, [1, 2]) + show()
        first = answers(line)
        self.assertEqual(first, [2, 2, 6, 4, 2, 1, 1, 2])
        first[6] = 9
        self.assertEqual(answers(line), [2, 2, 6, 4, 2, 1, 1, 2])

    def test_it_prints_reads_and_imports_nothing(self):
        def refuse(*given, **named):
            raise AssertionError("it reads or imports")

        out = io.StringIO()
        line = long_line()
        with contextlib.redirect_stdout(out), contextlib.redirect_stderr(out):
            with mock.patch.object(builtins, "open", refuse), mock.patch.object(builtins, "input", refuse), \
                    mock.patch.object(builtins, "__import__", refuse):
                answers(line)
        self.assertEqual(out.getvalue(), "")


if __name__ == "__main__":
    unittest.main()
