"""keep and same: when two strips are the same, and the first motion that takes the one to the other."""

import unittest

from calling import (BY_TYPE, ask, keep, kinds, least, make, paint, period, same, set_cell, show, strip, swap,
                     type_of, undo)

# No motion but steps of 3 keeps this one.
KEPT = [1, 2, 3,
        0, 0, 0]


def to_kept(h, colours, kept_h, kept_colours):
    """What same answers of the first strip when the second is kept."""
    return ask(strip(kept_h, kept_colours), keep(), strip(h, colours), same())[3]


class Keep(unittest.TestCase):
    def test_it_answers_the_period(self):
        for colours, told_kinds, told_least in BY_TYPE:
            self.assertEqual(ask(strip(2, colours), keep())[1], [len(colours) // 2])
        for t in (1, 2, 3, 4, 6, 12):
            colours = ([1] + [0] * (t - 1)) * (12 // t)
            self.assertEqual(ask(strip(1, colours), keep()), [[t, 6], [t]])

    def test_the_strip_stays(self):
        told = ask(strip(2, KEPT), show(), kinds(), keep(), show(), kinds())
        self.assertEqual(told[4:], told[1:3])

    def test_the_last_kept_one_counts(self):
        told = ask(strip(1, [1, 2, 3]), keep(), strip(1, [4, 5]), same(), keep(), same(), strip(1, [1, 2, 3]), same())
        self.assertEqual(told[3:], [[0], [2], [1, 0, 0], [3, 5], [0]])

    def test_changes_leave_the_kept_one(self):
        changes = (set_cell(0, 0, 9), paint(1, 0, 9), make(0, 1), swap(*[9] * 10), strip(2, [4] * 6))
        for change in changes:
            with self.subTest(change=change):
                told = ask(strip(2, KEPT), keep(), change, same(), strip(2, KEPT), same())
                self.assertEqual(told[3], [0])
                self.assertEqual(told[5], [1, 0, 0])

    def test_what_is_asked_leaves_the_kept_one(self):
        asked = [period(), kinds(), type_of(), least(), show(), same()]
        told = ask(strip(2, KEPT), keep(), strip(2, [2, 3, 1, 0, 0, 0]), *asked, same())
        self.assertEqual(told[-1], [1, 0, 1])


class FirstMotion(unittest.TestCase):
    def test_kind_0(self):
        self.assertEqual(to_kept(2, [1, 2, 3, 0, 0, 0], 2, KEPT), [1, 0, 0])
        # Column 0 of this one has the colour that column 1 of the kept one has.
        self.assertEqual(to_kept(2, [2, 3, 1, 0, 0, 0], 2, KEPT), [1, 0, 1])
        self.assertEqual(to_kept(2, [3, 1, 2, 0, 0, 0], 2, KEPT), [1, 0, 2])

    def test_kind_1(self):
        self.assertEqual(to_kept(2, [1, 3, 2, 0, 0, 0], 2, KEPT), [1, 1, 0])
        self.assertEqual(to_kept(2, [2, 1, 3, 0, 0, 0], 2, KEPT), [1, 1, 1])
        self.assertEqual(to_kept(2, [3, 2, 1, 0, 0, 0], 2, KEPT), [1, 1, 2])

    def test_kind_2(self):
        self.assertEqual(to_kept(2, [0, 0, 0, 1, 2, 3], 2, KEPT), [1, 2, 0])
        self.assertEqual(to_kept(2, [0, 0, 0, 2, 3, 1], 2, KEPT), [1, 2, 1])
        self.assertEqual(to_kept(2, [0, 0, 0, 3, 1, 2], 2, KEPT), [1, 2, 2])

    def test_kind_3(self):
        self.assertEqual(to_kept(2, [0, 0, 0, 1, 3, 2], 2, KEPT), [1, 3, 0])
        self.assertEqual(to_kept(2, [0, 0, 0, 2, 1, 3], 2, KEPT), [1, 3, 1])
        self.assertEqual(to_kept(2, [0, 0, 0, 3, 2, 1], 2, KEPT), [1, 3, 2])

    def test_it_is_from_the_strip_to_the_kept_one(self):
        self.assertEqual(to_kept(2, KEPT, 2, [2, 3, 1, 0, 0, 0]), [1, 0, 2])
        self.assertEqual(to_kept(2, KEPT, 2, [0, 0, 0, 2, 3, 1]), [1, 2, 2])
        # A mirror or half a turn is its own way back.
        self.assertEqual(to_kept(2, KEPT, 2, [2, 1, 3, 0, 0, 0]), [1, 1, 1])
        self.assertEqual(to_kept(2, KEPT, 2, [0, 0, 0, 2, 1, 3]), [1, 3, 1])

    def test_the_lesser_kind_goes_ahead_of_the_lesser_k(self):
        # The mirror with 1 takes it there too, but steps of 2 and of 4 are of a lesser kind.
        colours = [1, 2, 2, 1, 3, 3, 0, 0, 0, 0, 0, 0]
        moved = [2, 1, 3, 3, 1, 2, 0, 0, 0, 0, 0, 0]
        self.assertEqual(to_kept(2, moved, 2, colours), [1, 0, 2])
        self.assertEqual(to_kept(2, colours, 2, moved), [1, 0, 4])

    def test_the_least_k_of_several(self):
        self.assertEqual(to_kept(1, [0, 1, 0, 1, 0, 1], 1, [1, 0, 1, 0, 1, 0]), [1, 0, 1])
        self.assertEqual(to_kept(1, [1, 0, 1, 0, 1, 0], 1, [1, 0, 1, 0, 1, 0]), [1, 0, 0])

    def test_each_type_turned_by_each_kind(self):
        for colours, told_kinds, told_least in BY_TYPE:
            w = len(colours) // 2
            rows = [colours[:w], colours[w:]]
            for kind, turned in enumerate((rows[0] + rows[1], rows[0][::-1] + rows[1][::-1],
                                           rows[1] + rows[0], rows[1][::-1] + rows[0][::-1])):
                told = to_kept(2, turned, 2, colours)
                self.assertEqual(told[0], 1, (colours, turned))
                self.assertLessEqual(told[1], kind)
                self.assertLess(told[2], w)


class OtherColumns(unittest.TestCase):
    def test_the_period_counts_not_the_columns_told(self):
        for one in (1, 2, 3, 4):
            for other in (1, 2, 3, 4):
                with self.subTest(one=one, other=other):
                    self.assertEqual(to_kept(2, [2, 3, 1] * one + [0] * (3 * one),
                                             2, [1, 2, 3] * other + [0] * (3 * other)), [1, 0, 1])
                    self.assertEqual(to_kept(2, [0] * (3 * one) + [2, 1, 3] * one,
                                             2, [1, 2, 3] * other + [0] * (3 * other)), [1, 3, 1])

    def test_all_of_one_colour(self):
        for w in range(1, 13):
            for kept_w in (1, 5, 7, 12):
                self.assertEqual(to_kept(3, [4] * (3 * w), 3, [4] * (3 * kept_w)), [1, 0, 0])
                self.assertEqual(to_kept(3, [4] * (3 * w), 3, [5] * (3 * kept_w)), [0])

    def test_eight_columns_and_twelve(self):
        self.assertEqual(to_kept(1, [4, 1, 2, 3] * 2, 1, [1, 2, 3, 4] * 3), [1, 0, 3])
        self.assertEqual(to_kept(1, [4, 1, 2, 3] * 3, 1, [1, 2, 3, 4] * 2), [1, 0, 3])

    def test_other_periods(self):
        # The columns of the shorter period look alike in both.
        for one, other in (([1, 0], [1, 0, 0]), ([1, 0, 0, 0], [1, 0, 0, 0, 1, 0]), ([1], [1, 1, 1, 2]),
                           ([1, 2, 3], [1, 2, 3, 1, 2, 3, 1, 2, 3, 1, 2]), ([1, 0] * 6, [1, 0, 0] * 4),
                           ([0, 0, 1], [0, 0, 1, 0, 0, 2])):
            with self.subTest(one=one, other=other):
                self.assertEqual(to_kept(1, one, 1, other), [0])
                self.assertEqual(to_kept(1, other, 1, one), [0])

    def test_it_is_the_period_then_not_as_told_at_first(self):
        told = ask(strip(1, [1, 0]), keep(), strip(1, [0, 1, 0, 0]), same(), set_cell(-1, 0, 1), same())
        self.assertEqual(told, [[2, 6], [2], [4, 6], [0], [2, 6], [1, 0, 1]])


class NotTheSame(unittest.TestCase):
    def test_other_heights(self):
        for h in range(1, 7):
            for kept_h in range(1, 7):
                told = to_kept(h, [0, 1] * h, kept_h, [1, 0] * kept_h)
                self.assertEqual(told, [1, 0, 1] if h == kept_h else [0])

    def test_other_colours(self):
        self.assertEqual(to_kept(2, [1, 2, 4, 0, 0, 0], 2, KEPT), [0])
        self.assertEqual(to_kept(2, [1, 2, 3, 0, 0, 1], 2, KEPT), [0])
        self.assertEqual(to_kept(2, [0] * 6, 2, KEPT), [0])

    def test_the_same_colours_in_another_order(self):
        # Row 1 is a column farther on: no motion takes both rows along at once.
        self.assertEqual(to_kept(2, [1, 2, 3, 6, 4, 5], 2, [1, 2, 3, 4, 5, 6]), [0])
        self.assertEqual(to_kept(1, [1, 2, 3, 4], 1, [1, 3, 2, 4]), [0])
        self.assertEqual(to_kept(3, [1, 2, 3], 3, [2, 1, 3]), [0])

    def test_three_rows_upside_down(self):
        self.assertEqual(to_kept(3, [1, 2, 3], 3, [3, 2, 1]), [1, 2, 0])


class AtTheEdges(unittest.TestCase):
    def test_ahead_of_any_strip(self):
        self.assertEqual(ask(same()), [[1, 0, 0]])
        self.assertEqual(ask(keep(), same()), [[1], [1, 0, 0]])
        # The kept one is of colour 0 at the beginning.
        for colour in range(10):
            self.assertEqual(ask(strip(1, [colour]), same())[1], [1, 0, 0] if colour == 0 else [0])
            self.assertEqual(ask(set_cell(3, 0, colour), same())[1], [1, 0, 0] if colour == 0 else [0])
        self.assertEqual(ask(strip(1, [0] * 12), same()), [[1, 6], [1, 0, 0]])
        self.assertEqual(ask(strip(2, [0, 0]), same()), [[1, 6], [0]])

    def test_six_rows_and_twelve_columns(self):
        rows = [[(x * x * (y + 3) // 2 + x // 3 + y) % 10 for x in range(12)] for y in range(6)]
        colours = [colour for row in rows for colour in row]
        for k in range(12):
            for kind in range(4):
                moved = [[0] * 12 for y in range(6)]
                for y in range(6):
                    for x in range(12):
                        goal = (x + k if kind in (0, 2) else k - x) % 12
                        moved[y][x] = rows[y if kind in (0, 1) else 5 - y][goal]
                told = to_kept(6, [colour for row in moved for colour in row], 6, colours)
                self.assertEqual(told, [1, kind, k])

    def test_behind_undo(self):
        told = ask(strip(2, KEPT), keep(), strip(2, [2, 3, 1, 0, 0, 0]), make(2, 0), same(), undo(), same(), undo(), same())
        self.assertEqual(told, [[3, 0], [3], [3, 0], [3, 5], [0], [3, 0], [1, 0, 1], [3, 0], [1, 0, 0]])


if __name__ == "__main__":
    unittest.main()
