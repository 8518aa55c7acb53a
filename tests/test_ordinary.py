"""Ordinary inputs: strips of each type, what is asked of them, paint and set on them."""

import unittest

from calling import BY_TYPE, all_told, ask, kinds, least, paint, period, set_cell, strip, type_of


class EachType(unittest.TestCase):
    def test_strip_answers_period_and_type(self):
        for number, (colours, told_kinds, told_least) in enumerate(BY_TYPE):
            with self.subTest(type=number):
                self.assertEqual(ask(strip(2, colours)), [[len(colours) // 2, number]])

    def test_what_is_asked_of_it(self):
        for number, (colours, told_kinds, told_least) in enumerate(BY_TYPE):
            with self.subTest(type=number):
                told = ask(strip(2, colours), *all_told())
                self.assertEqual(told[1:], [[len(colours) // 2], told_kinds, [number], told_least])

    def test_all_types_in_one_line(self):
        calls = []
        told = []
        for number, (colours, told_kinds, told_least) in enumerate(BY_TYPE):
            t = len(colours) // 2
            calls.extend([strip(2, colours), kinds(), type_of(), least(), period()])
            told.extend([[t, number], told_kinds, [number], told_least, [t]])
        self.assertEqual(ask(*calls), told)

    def test_asking_changes_nothing(self):
        for colours, told_kinds, told_least in BY_TYPE:
            told = ask(strip(2, colours), *all_told(), *all_told())
            self.assertEqual(told[1:5], told[5:])

    def test_rows_are_told_from_row_0_column_0_on(self):
        # Columns 1 and 2 of row 1 alone keep this strip from being all of one colour.
        colours = [4, 4, 4, 4,
                   4, 5, 6, 4]
        self.assertEqual(ask(strip(2, colours), set_cell(1, 1, 4), set_cell(2, 1, 4)), [[4, 0], [4, 2], [1, 6]])

    def test_a_mirror_between_two_columns(self):
        self.assertEqual(ask(strip(1, [1, 2, 2, 1, 3]), kinds()), [[5, 6], [1, 0, 1, 3, 1, 0, 1, 3]])

    def test_least_cells_are_numbered_within_the_period(self):
        # Three rows, t 2 and w 4: row 0 has numbers 0 and 1, row 1 has 2 and 3, row 2 has 4 and 5.
        colours = [1, 0, 1, 0,
                   2, 3, 2, 3,
                   4, 5, 4, 5]
        self.assertEqual(ask(strip(3, colours), kinds(), least()),
                         [[2, 2], [1, 0, 1, 0, 0, 0], [6, 0, 1, 2, 3, 4, 5]])

    def test_the_middle_row_goes_along_with_itself(self):
        colours = [1, 2, 3,
                   4, 5, 6,
                   1, 2, 3]
        self.assertEqual(ask(strip(3, colours), least()), [[3, 5], [6, 0, 1, 2, 3, 4, 5]])


class Paint(unittest.TestCase):
    def test_one_cell_of_each_type(self):
        # How many cells of columns 0 to w - 1 go along with (1, 0); colour 9 is new to every strip,
        # so period and type stay.
        for number, count in enumerate((1, 2, 2, 2, 2, 2, 4)):
            colours = BY_TYPE[number][0]
            with self.subTest(type=number):
                told = ask(strip(2, colours), paint(1, 0, 9), kinds(), least())
                self.assertEqual(told[1:], [[count, len(colours) // 2, number], BY_TYPE[number][1], BY_TYPE[number][2]])

    def test_a_step_turned_upside_down(self):
        # (1, 0) goes along with (4, 1): both painted 0 leaves 1 and 3 in each row.
        colours = BY_TYPE[1][0]
        told = ask(strip(2, colours), paint(1, 0, 0), set_cell(1, 0, 2), set_cell(4, 1, 2))
        self.assertEqual(told, [[6, 1], [2, 6, 1], [6, 0], [6, 1]])

    def test_half_a_turn(self):
        # (0, 0) goes along with (2, 1); setting both back gives the strip as it was.
        colours = BY_TYPE[3][0]
        told = ask(strip(2, colours), paint(0, 0, 2), set_cell(0, 0, 1), set_cell(2, 1, 1), kinds())
        self.assertEqual(told, [[3, 3], [2, 3, 3], [3, 0], [3, 3], BY_TYPE[3][1]])

    def test_it_may_have_more_motions_then(self):
        self.assertEqual(ask(strip(2, BY_TYPE[2][0]), paint(0, 0, 0)), [[3, 2], [1, 1, 2]])
        self.assertEqual(ask(strip(2, BY_TYPE[4][0]), paint(0, 0, 0)), [[2, 4], [2, 1, 6]])
        self.assertEqual(ask(strip(1, [1, 0, 2, 0]), paint(2, 0, 1)), [[4, 6], [1, 2, 6]])

    def test_its_own_colour_is_painted_all_the_same(self):
        self.assertEqual(ask(strip(2, BY_TYPE[6][0]), paint(2, 1, 0)), [[3, 6], [4, 3, 6]])

    def test_what_goes_along_is_told_by_motions_not_by_colour(self):
        # All three 0 in row 0 look alike, but column 2 lies on the mirror.
        colours = [1, 0, 0, 0,
                   2, 2, 2, 2]
        self.assertEqual(ask(strip(2, colours), paint(2, 0, 3), paint(1, 0, 3)), [[4, 2], [1, 4, 2], [2, 4, 2]])

    def test_paint_upon_paint_goes_by_how_it_is_then(self):
        # The first makes all cells of the row alike; the second paints the whole row.
        self.assertEqual(ask(strip(2, [1, 0, 0, 2, 2, 2]), paint(0, 0, 0), paint(0, 0, 5), least()),
                         [[3, 2], [1, 1, 2], [3, 1, 2], [2, 0, 1]])


class SetCell(unittest.TestCase):
    def test_one_cell_alone(self):
        # The mirror would take column 1 to column 2: set leaves that one.
        told = ask(strip(2, BY_TYPE[2][0]), set_cell(1, 0, 5), kinds(), set_cell(2, 0, 5), kinds())
        self.assertEqual(told, [[3, 2], [3, 0], [1, 0, 0, 0, 0], [3, 2], [1, 0, 1, 0, 0, 0]])

    def test_from_type_to_type(self):
        told = ask(strip(2, [0] * 6), set_cell(0, 0, 1), set_cell(0, 1, 1), set_cell(1, 0, 2), set_cell(1, 1, 2),
                   set_cell(0, 1, 0), set_cell(1, 1, 0))
        self.assertEqual(told, [[1, 6], [3, 2], [3, 6], [3, 0], [3, 5], [3, 0], [3, 0]])

    def test_its_own_colour_changes_nothing(self):
        self.assertEqual(ask(strip(2, BY_TYPE[3][0]), set_cell(1, 1, 2), kinds()), [[3, 3], [3, 3], BY_TYPE[3][1]])


if __name__ == "__main__":
    unittest.main()
