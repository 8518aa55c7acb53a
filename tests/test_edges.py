"""The edges that the document names, up to which all is answered."""

import unittest

from calling import (all_told, ask, keep, kinds, least, make, paint, period, same, set_cell, show, strip, swap,
                     type_of, undo)

ONE_OF_SEVEN = [1, 0, 0, 0, 0, 0, 0]


class Beginning(unittest.TestCase):
    def test_each_call_ahead_of_any_strip(self):
        self.assertEqual(ask(period()), [[1]])
        self.assertEqual(ask(kinds()), [[1, 0, 1, 0, 1, 0, 1, 0]])
        self.assertEqual(ask(type_of()), [[6]])
        self.assertEqual(ask(least()), [[1, 0]])
        self.assertEqual(ask(paint(0, 0, 7)), [[1, 1, 6]])
        self.assertEqual(ask(set_cell(0, 0, 7)), [[1, 6]])
        self.assertEqual(ask(strip(1, [7])), [[1, 6]])
        for kind in range(4):
            self.assertEqual(ask(make(kind, 1), show()), [[1, 6], [1, 1, 0]])
        self.assertEqual(ask(swap(5, 0, 0, 0, 0, 0, 0, 0, 0, 0), show()), [[1, 6], [1, 1, 5]])
        self.assertEqual(ask(keep()), [[1]])
        self.assertEqual(ask(same()), [[1, 0, 0]])
        self.assertEqual(ask(undo()), [[-7]])
        self.assertEqual(ask(show()), [[1, 1, 0]])

    def test_one_row_and_one_column(self):
        self.assertEqual(ask(paint(-1000, 0, 3), set_cell(1000, 0, 4), *all_told()),
                         [[1, 1, 6], [1, 6], [1], [1, 0, 1, 0, 1, 0, 1, 0], [6], [1, 0]])
        self.assertEqual(ask(paint(0, 1, 3), set_cell(0, 1, 3)), [[-1], [-1]])


class Sizes(unittest.TestCase):
    def test_one_row(self):
        # Upside down, one row is as it was: only types 5 and 6 are there.
        self.assertEqual(ask(strip(1, [1, 2, 3]), kinds(), least()), [[3, 5], [1, 0, 0, 1, 0, 0], [3, 0, 1, 2]])
        self.assertEqual(ask(strip(1, [1, 2]), kinds(), least()), [[2, 6], [1, 0, 1, 0, 1, 0, 1, 0], [2, 0, 1]])

    def test_one_column(self):
        self.assertEqual(ask(strip(1, [9])), [[1, 6]])
        self.assertEqual(ask(strip(6, [1, 2, 3, 4, 5, 6]), kinds(), least()),
                         [[1, 2], [1, 0, 1, 0, 0, 0], [6, 0, 1, 2, 3, 4, 5]])
        self.assertEqual(ask(strip(6, [1, 2, 3, 3, 2, 1]), kinds(), least()),
                         [[1, 6], [1, 0, 1, 0, 1, 0, 1, 0], [3, 0, 1, 2]])

    def test_every_height(self):
        # The highest row goes along with the lowest; the rows between stay as they were.
        for h, painted in ((1, [1, 1, 6]), (2, [2, 1, 6]), (3, [2, 2, 6]), (4, [2, 2, 6]), (5, [2, 2, 6]), (6, [2, 2, 6])):
            self.assertEqual(ask(strip(h, [0, 1] * h), paint(0, h - 1, 1)), [[2, 6], painted])

    def test_every_width(self):
        for w in range(1, 13):
            self.assertEqual(ask(strip(6, [1] + [0] * (6 * w - 1))), [[w, 2]])

    def test_twelve_columns_and_six_rows(self):
        row = [1, 2, 3, 4, 5, 6, 7, 8, 9, 0, 0, 0]
        told = ask(strip(6, row + [0] * 60), kinds(), least(), paint(11, 5, 9), paint(0, 0, 0))
        self.assertEqual(told, [[12, 0], [1, 0, 0, 0, 0], [72] + list(range(72)), [1, 12, 0], [1, 12, 0]])
        self.assertEqual(ask(strip(6, row * 6), least()), [[12, 5], [36] + list(range(36))])

    def test_all_of_one_colour(self):
        self.assertEqual(ask(strip(6, [0] * 72), least(), paint(5, 0, 1), least()),
                         [[1, 6], [3, 0, 1, 2], [24, 1, 6], [3, 0, 1, 2]])
        self.assertEqual(ask(strip(5, [0] * 60), least(), paint(5, 2, 1)), [[1, 6], [3, 0, 1, 2], [12, 1, 6]])


class RepeatsOftener(unittest.TestCase):
    def test_periods_that_divide_w(self):
        for t in (1, 2, 3, 4, 6, 12):
            colours = ([1] + [0] * (t - 1)) * (12 // t)
            self.assertEqual(ask(strip(1, colours), period()), [[t, 6], [t]])

    def test_ks_lie_below_the_period(self):
        self.assertEqual(ask(strip(1, [0, 0, 1] * 4), kinds()), [[3, 6], [1, 0, 1, 1, 1, 0, 1, 1]])
        self.assertEqual(ask(strip(2, [1, 0] * 6 + [0, 1] * 6), kinds(), least()),
                         [[2, 4], [1, 0, 1, 0, 1, 1, 1, 1], [2, 0, 1]])

    def test_paint_counts_within_w(self):
        self.assertEqual(ask(strip(1, [0, 0, 1] * 4), paint(0, 0, 5)), [[3, 6], [8, 3, 6]])
        self.assertEqual(ask(strip(1, [0, 0, 1] * 4), paint(2, 0, 0)), [[3, 6], [4, 1, 6]])
        self.assertEqual(ask(strip(2, [1, 2, 3] * 2 + [0] * 6), paint(4, 0, 5), kinds()),
                         [[3, 0], [2, 3, 0], [1, 0, 0, 0, 0]])

    def test_set_goes_by_w_not_by_the_period(self):
        self.assertEqual(ask(strip(1, [1, 0, 1, 0]), set_cell(0, 0, 5), set_cell(2, 0, 5)), [[2, 6], [4, 6], [2, 6]])
        self.assertEqual(ask(strip(1, [0] * 12), set_cell(13, 0, 1), kinds(), set_cell(-5, 0, 1), kinds()),
                         [[1, 6], [12, 6], [1, 0, 1, 2, 1, 0, 1, 2], [6, 6], [1, 0, 1, 2, 1, 0, 1, 2]])

    def test_w_stays_as_told_when_the_period_falls(self):
        self.assertEqual(ask(strip(1, [1, 0, 0, 0]), set_cell(0, 0, 0), set_cell(3, 0, 2), paint(1, 0, 2)),
                         [[4, 6], [1, 6], [4, 6], [1, 2, 6]])

    def test_a_period_need_not_be_the_least_divisor_tried(self):
        # Steps of 4 and of 6 each keep one row alone.
        rows = [1, 0, 0, 0] * 3 + [1, 0, 0, 0, 0, 0] * 2
        self.assertEqual(ask(strip(2, rows)), [[12, 2]])


class FarColumns(unittest.TestCase):
    def test_set_at_columns_far_and_below_0(self):
        # One cell of seven is coloured: the k of the mirror, twice its column, tells which.
        for x, column in ((-1000, 1), (1000, 6), (-1, 6), (-7, 0), (-8, 6), (7, 0), (999, 5), (-999, 2)):
            with self.subTest(x=x):
                k = 2 * column % 7
                told = ask(strip(1, [0] * 7), set_cell(x, 0, 1), kinds())
                self.assertEqual(told, [[1, 6], [7, 6], [1, 0, 1, k, 1, 0, 1, k]])

    def test_paint_at_columns_far_and_below_0(self):
        # Columns 0, 7, 14 .. lie on the mirror by themselves; all others have one that goes along.
        for x, count in ((-1000, 2), (1000, 2), (-1, 2), (-7, 1), (-994, 1), (994, 1), (7, 1)):
            with self.subTest(x=x):
                self.assertEqual(ask(strip(1, ONE_OF_SEVEN), paint(x, 0, 5)), [[7, 6], [count, 7, 6]])

    def test_paint_comes_to_the_right_cells(self):
        # -1000 is column 1, which goes along with column 6: setting both back gives the first strip.
        told = ask(strip(1, ONE_OF_SEVEN), paint(-1000, 0, 1), set_cell(1, 0, 0), set_cell(6, 0, 0), kinds())
        self.assertEqual(told, [[7, 6], [2, 7, 6], [7, 6], [7, 6], [1, 0, 1, 0, 1, 0, 1, 0]])


class RowsAndColours(unittest.TestCase):
    def test_the_lowest_and_the_highest_row(self):
        for h in range(2, 7):
            colours = [1, 2, 3] + [0] * (3 * (h - 1))
            self.assertEqual(ask(strip(h, colours), set_cell(0, h - 1, 1), set_cell(1, h - 1, 2), set_cell(2, h - 1, 3)),
                             [[3, 0], [3, 0], [3, 0], [3, 5]])
            self.assertEqual(ask(strip(h, colours), paint(0, 0, 0), paint(1, 0, 0), paint(2, 0, 0)),
                             [[3, 0], [1, 3, 0], [1, 3, 2], [1, 1, 6]])
            self.assertEqual(ask(strip(h, colours), paint(0, h - 1, 4)), [[3, 0], [1, 3, 0]])

    def test_colours_0_and_9(self):
        self.assertEqual(ask(strip(1, [0, 9])), [[2, 6]])
        self.assertEqual(ask(strip(1, list(range(10)))), [[10, 5]])
        self.assertEqual(ask(strip(1, [0, 9]), paint(0, 0, 9), paint(0, 0, 0)), [[2, 6], [1, 1, 6], [2, 1, 6]])
        self.assertEqual(ask(strip(1, [0, 9]), set_cell(1, 0, 0), set_cell(0, 0, 9)), [[2, 6], [1, 6], [2, 6]])


class FortyCalls(unittest.TestCase):
    def test_ten_rounds_of_four_calls(self):
        calls = []
        told = []
        for turn in range(10):
            calls.extend([strip(2, [1, 0, 0, 1]), paint(turn, 0, 2), least(), set_cell(turn, 0, 0)])
            told.extend([[2, 4], [2, 2, 4], [2, 0, 1], [2, 2]])
        self.assertEqual(len(calls), 40)
        self.assertEqual(ask(*calls), told)

    def test_all_thirteen_calls_three_times_over(self):
        round_of_calls = [strip(2, [1, 2, 3, 4, 5, 6, 7, 8]), period(), make(2, 2), kinds(), type_of(), keep(),
                          paint(0, 0, 9), set_cell(-1, 1, 0), same(), undo(), swap(9, 8, 7, 6, 5, 4, 3, 2, 1, 0),
                          least(), show()]
        told = [[4, 0], [4], [4, 1], [1, 0, 0, 1, 2, 0], [1], [4],
                [2, 4, 1], [4, 0], [0], [4, 1], [4, 1],
                [4, 0, 1, 2, 3], [4, 2, 0, 7, 6, 5, 6, 5, 0, 7]]
        calls = round_of_calls * 3 + [undo()]
        self.assertEqual(len(calls), 40)
        self.assertEqual(ask(*calls), told * 3 + [[4, 1]])

    def test_the_largest_strip_made_again_and_again(self):
        rows = [[(x * x * (y + 3) // 2 + x // 3 + y) % 10 for x in range(12)] for y in range(6)]
        colours = [colour for row in rows for colour in row]
        calls = [strip(6, colours), make(2, 0), make(1, 11)] + [make(kind % 4, 1) for kind in range(36)] + [show()]
        given = ask(*calls)
        self.assertEqual(given[:4], [[12, 0], [12, 5], [12, 6], [1, 6]])
        self.assertEqual(given[4:39], [[1, 6]] * 35)
        lowest = [row[0] for row in rows[:3]]
        self.assertEqual(given[39], [12, 6] + [colour for colour in lowest + lowest[::-1] for x in range(12)])

    def test_the_longest_lists_of_colours(self):
        self.assertEqual(ask(*[strip(6, [1] * 100) for turn in range(40)]), [[-1]] * 40)

    def test_cell_by_cell_over_the_largest_strip(self):
        calls = [strip(6, [0] * 72)] + [set_cell(n % 12, n // 12, 1) for n in range(38)] + [least()]
        given = ask(*calls)
        self.assertEqual(given[12], [1, 2])
        self.assertEqual(given[36], [1, 2])
        self.assertEqual(given[38], [12, 2])
        # Columns 0 and 1 of row 3 are the last coloured ones: the mirror between them is left.
        numbers = [12 * y + x for y in range(6) for x in (0, 2, 3, 4, 5, 6)]
        self.assertEqual(given[39], [36] + numbers)


if __name__ == "__main__":
    unittest.main()
