"""make: which colour each cell has then, that it has the motion and all that it had, and k up to its edges."""

import unittest

from calling import ask, kinds, make, paint, show, strip

# One strip of each type from 0 to 6: its rows; then for some motions (kind, k): the rows, period and type then.
BY_TYPE = (
    ([[1, 2, 3, 4],
      [5, 6, 7, 8]], (
        (0, 2, [[1, 2, 1, 2], [5, 6, 5, 6]], [2, 2]),
        (1, 1, [[1, 1, 3, 3], [5, 5, 7, 7]], [4, 2]),
        (2, 0, [[1, 2, 3, 4], [1, 2, 3, 4]], [4, 5]),
        (2, 1, [[1, 2, 1, 2], [2, 1, 2, 1]], [2, 4]),
        (2, 2, [[1, 2, 3, 4], [3, 4, 1, 2]], [4, 1]),
        (3, 0, [[1, 2, 3, 4], [1, 4, 3, 2]], [4, 3]))),
    ([[1, 2, 3, 4],
      [3, 4, 1, 2]], (
        (0, 2, [[1, 2, 1, 2], [1, 2, 1, 2]], [2, 6]),
        (1, 3, [[1, 2, 2, 1], [2, 1, 1, 2]], [4, 4]),
        (2, 0, [[1, 2, 1, 2], [1, 2, 1, 2]], [2, 6]),
        (2, 2, [[1, 2, 3, 4], [3, 4, 1, 2]], [4, 1]),
        (3, 3, [[1, 1, 3, 3], [3, 3, 1, 1]], [4, 4]))),
    ([[1, 2, 3, 2],
      [4, 5, 6, 5],
      [7, 8, 9, 8]], (
        (0, 2, [[1, 2, 1, 2], [4, 5, 4, 5], [7, 8, 7, 8]], [2, 2]),
        (1, 0, [[1, 2, 3, 2], [4, 5, 6, 5], [7, 8, 9, 8]], [4, 2]),
        (1, 2, [[1, 2, 1, 2], [4, 5, 4, 5], [7, 8, 7, 8]], [2, 2]),
        (2, 0, [[1, 2, 3, 2], [4, 5, 6, 5], [1, 2, 3, 2]], [4, 6]),
        (2, 2, [[1, 2, 3, 2], [4, 5, 4, 5], [3, 2, 1, 2]], [4, 4]),
        (3, 1, [[1, 2, 1, 2], [4, 4, 4, 4], [2, 1, 2, 1]], [2, 4]),
        (3, 2, [[1, 2, 3, 2], [4, 5, 4, 5], [3, 2, 1, 2]], [4, 4]))),
    ([[1, 2, 3, 4],
      [1, 4, 3, 2]], (
        (0, 2, [[1, 2, 1, 2], [1, 2, 1, 2]], [2, 6]),
        (1, 2, [[1, 2, 1, 4], [1, 4, 1, 2]], [4, 4]),
        (2, 0, [[1, 2, 3, 2], [1, 2, 3, 2]], [4, 6]),
        (3, 0, [[1, 2, 3, 4], [1, 4, 3, 2]], [4, 3]),
        (3, 1, [[1, 1, 1, 1], [1, 1, 1, 1]], [1, 6]),
        (3, 2, [[1, 2, 1, 2], [1, 2, 1, 2]], [2, 6]))),
    ([[1, 2, 3, 4, 5, 4, 3, 2],
      [5, 4, 3, 2, 1, 2, 3, 4]], (
        (0, 4, [[1, 2, 3, 2, 1, 2, 3, 2], [1, 2, 3, 2, 1, 2, 3, 2]], [4, 6]),
        (1, 2, [[1, 2, 1, 2, 1, 2, 1, 2], [1, 2, 1, 2, 1, 2, 1, 2]], [2, 6]),
        (2, 0, [[1, 2, 3, 2, 1, 2, 3, 2], [1, 2, 3, 2, 1, 2, 3, 2]], [4, 6]),
        (2, 4, [[1, 2, 3, 4, 5, 4, 3, 2], [5, 4, 3, 2, 1, 2, 3, 4]], [8, 4]),
        (3, 0, [[1, 2, 3, 2, 1, 2, 3, 2], [1, 2, 3, 2, 1, 2, 3, 2]], [4, 6]))),
    ([[1, 2, 3, 4, 5, 6],
      [7, 8, 9, 0, 1, 2],
      [1, 2, 3, 4, 5, 6]], (
        (0, 3, [[1, 2, 3, 1, 2, 3], [7, 8, 9, 7, 8, 9], [1, 2, 3, 1, 2, 3]], [3, 5]),
        (1, 5, [[1, 2, 3, 3, 2, 1], [7, 8, 9, 9, 8, 7], [1, 2, 3, 3, 2, 1]], [6, 6]),
        (2, 3, [[1, 2, 3, 1, 2, 3], [7, 8, 9, 7, 8, 9], [1, 2, 3, 1, 2, 3]], [3, 5]),
        (3, 1, [[1, 1, 3, 4, 4, 3], [7, 7, 9, 0, 0, 9], [1, 1, 3, 4, 4, 3]], [6, 6]))),
    ([[1, 2, 3, 4, 3, 2],
      [5, 6, 7, 8, 7, 6],
      [1, 2, 3, 4, 3, 2]], (
        (0, 2, [[1, 2, 1, 2, 1, 2], [5, 6, 5, 6, 5, 6], [1, 2, 1, 2, 1, 2]], [2, 6]),
        (1, 3, [[1, 2, 2, 1, 2, 2], [5, 6, 6, 5, 6, 6], [1, 2, 2, 1, 2, 2]], [3, 6]),
        (2, 3, [[1, 2, 2, 1, 2, 2], [5, 6, 6, 5, 6, 6], [1, 2, 2, 1, 2, 2]], [3, 6]),
        (3, 5, [[1, 1, 1, 1, 1, 1], [5, 5, 5, 5, 5, 5], [1, 1, 1, 1, 1, 1]], [1, 6]))),
)

TWELVE = [1, 2, 3, 4, 5, 6, 7, 8, 9, 0, 5, 3]


def flat(rows):
    return [colour for row in rows for colour in row]


def shown(rows):
    return [len(rows[0]), len(rows)] + flat(rows)


def ks_by_kind(told_kinds):
    """What kinds answers, one list of k for each kind."""
    found = []
    at = 0
    while at < len(told_kinds):
        end = at + 1 + told_kinds[at]
        found.append(told_kinds[at + 1:end])
        at = end
    return found


def made(h, colours, kind, k):
    """The colours behind make."""
    return ask(strip(h, colours), make(kind, k), show())[2][2:]


class EachType(unittest.TestCase):
    def test_the_strips_are_of_each_type(self):
        for number, (rows, makes) in enumerate(BY_TYPE):
            self.assertEqual(ask(strip(len(rows), flat(rows))), [[len(rows[0]), number]])
            self.assertEqual({kind for kind, k, then, how in makes}, {0, 1, 2, 3})

    def test_which_colour_each_cell_has(self):
        for rows, makes in BY_TYPE:
            for kind, k, then, how in makes:
                with self.subTest(rows=rows, kind=kind, k=k):
                    told = ask(strip(len(rows), flat(rows)), make(kind, k), show())
                    self.assertEqual(told[1:], [how, shown(then)])

    def test_it_has_the_motion_and_all_that_it_had(self):
        for rows, makes in BY_TYPE:
            w = len(rows[0])
            for kind in range(4):
                for k in range(-w - 1, 2 * w):
                    told = ask(strip(len(rows), flat(rows)), kinds(), make(kind, k), kinds())
                    t = told[2][0]
                    had = ks_by_kind(told[1])
                    has = ks_by_kind(told[3])
                    self.assertIn(k % t, has[kind], (rows, kind, k))
                    for other in range(4):
                        self.assertLessEqual({n % t for n in had[other]}, set(has[other]), (rows, kind, k))

    def test_a_second_time_changes_nothing(self):
        for rows, makes in BY_TYPE:
            for kind, k, then, how in makes:
                told = ask(strip(len(rows), flat(rows)), make(kind, k), make(kind, k), show())
                self.assertEqual(told[1:], [how, how, shown(then)])

    def test_a_motion_that_it_has_changes_nothing(self):
        for number, (rows, makes) in enumerate(BY_TYPE):
            w = len(rows[0])
            for kind, ks in enumerate(ks_by_kind(ask(strip(len(rows), flat(rows)), kinds())[1])):
                for k in ks:
                    told = ask(strip(len(rows), flat(rows)), make(kind, k), make(kind, k - 3 * w), show())
                    self.assertEqual(told, [[w, number]] * 3 + [shown(rows)])


class LeastNumber(unittest.TestCase):
    def test_it_is_counted_row_by_row(self):
        # (3, 0) comes to (0, 1): row 0 goes ahead of column 0.
        self.assertEqual(made(2, [1, 2, 3, 4, 5, 6, 7, 8], 3, 3), [1, 2, 3, 4, 4, 3, 2, 1])

    def test_the_least_number_not_the_least_or_commonest_colour(self):
        self.assertEqual(made(1, [9, 0, 0, 0], 0, 1), [9, 9, 9, 9])
        self.assertEqual(made(1, [5, 7, 0, 7, 0, 3], 0, 2), [5, 7, 5, 7, 5, 7])

    def test_motions_one_behind_another(self):
        # The mirrors 0 and 2 done one behind the other are a step of 2.
        told = ask(strip(2, [1, 2, 3, 4, 5, 6, 5, 6, 7, 8, 9, 0]), make(1, 0), show(), make(1, 2), show())
        self.assertEqual(told[1:], [[6, 2], [6, 2, 1, 2, 3, 4, 3, 2, 5, 6, 7, 8, 7, 6],
                                    [2, 2], [6, 2, 1, 2, 1, 2, 1, 2, 5, 6, 5, 6, 5, 6]])

    def test_motions_that_colours_alone_bring_count(self):
        # All of one colour but one cell of row 1: the mirror through it is there, though nobody made it.
        told = ask(strip(2, [0, 0, 0, 0, 0, 7]), make(1, 0), show())
        self.assertEqual(told[1:], [[1, 6], [3, 2, 0, 0, 0, 0, 0, 0]])

    def test_from_one_type_to_the_next(self):
        told = ask(strip(2, [1, 2, 3, 4, 5, 6, 7, 8]), make(2, 2), make(1, 3), make(2, 0), paint(0, 0, 9), show())
        self.assertEqual(told, [[4, 0], [4, 1], [4, 4], [1, 6], [8, 1, 6], [4, 2] + [9] * 8])


class Heights(unittest.TestCase):
    def test_one_row(self):
        # Upside down, one row is as it was: kind 2 is kind 0, kind 3 is kind 1.
        for kind in (0, 2):
            self.assertEqual(made(1, [1, 2, 3, 4, 5, 6], kind, 3), [1, 2, 3, 1, 2, 3])
        for kind in (1, 3):
            self.assertEqual(made(1, [1, 2, 3, 4, 5, 6], kind, 3), [1, 2, 2, 1, 5, 5])

    def test_one_row_and_one_column(self):
        for kind in range(4):
            self.assertEqual(ask(strip(1, [8]), make(kind, 7), show()), [[1, 6], [1, 6], [1, 1, 8]])

    def test_six_rows_and_one_column(self):
        for kind in (0, 1):
            self.assertEqual(made(6, [1, 2, 3, 4, 5, 6], kind, 1), [1, 2, 3, 4, 5, 6])
        for kind in (2, 3):
            self.assertEqual(made(6, [1, 2, 3, 4, 5, 6], kind, 1), [1, 2, 3, 3, 2, 1])

    def test_six_rows_and_twelve_columns(self):
        rows = [[(x * x * (y + 3) // 2 + x // 3 + y) % 10 for x in range(12)] for y in range(6)]
        self.assertEqual(ask(strip(6, flat(rows))), [[12, 0]])
        upside_down = rows[:3] + [rows[2 - y] for y in range(3)]
        self.assertEqual(made(6, flat(rows), 2, 0), flat(upside_down))
        turned = rows[:3] + [[rows[2 - y][(4 - x) % 12] for x in range(12)] for y in range(3)]
        self.assertEqual(made(6, flat(rows), 3, 4), flat(turned))
        self.assertEqual(made(6, flat(rows), 0, 6), flat([row[:6] * 2 for row in rows]))


class Ks(unittest.TestCase):
    def test_steps_that_do_not_divide_w(self):
        for k, t in ((5, 1), (7, 1), (11, 1), (8, 4), (9, 3), (10, 2), (-8, 4), (20, 4), (-9, 3), (1000, 4), (-1000, 4),
                     (999, 3), (-999, 3), (998, 2), (996, 12), (-996, 12), (0, 12), (12, 12), (-12, 12), (18, 6)):
            with self.subTest(k=k):
                self.assertEqual(made(1, TWELVE, 0, k), TWELVE[:t] * (12 // t))

    def test_steps_beside_a_period_below_w(self):
        # Period 6 and a step of 4, which is no multiple of 6: steps of 2. Of 9: steps of 3.
        for k, t in ((4, 2), (8, 2), (9, 3), (-3, 3), (10, 2), (5, 1), (6, 6), (18, 6), (1000, 2), (-1000, 2)):
            with self.subTest(k=k):
                told = ask(strip(1, [1, 2, 3, 4, 5, 6] * 2), make(0, k), show())
                self.assertEqual(told[1][0], t)
                self.assertEqual(told[2], [12, 1] + [1, 2, 3, 4, 5, 6][:t] * (12 // t))

    def test_mirrors_far_and_below_0(self):
        # 1000 is 6 above a multiple of 7, -1000 is 1 above one.
        for k, then in ((1000, [1, 2, 3, 4, 3, 2, 1]), (6, [1, 2, 3, 4, 3, 2, 1]), (-1, [1, 2, 3, 4, 3, 2, 1]),
                        (-1000, [1, 1, 3, 4, 5, 4, 3]), (1, [1, 1, 3, 4, 5, 4, 3]), (8, [1, 1, 3, 4, 5, 4, 3]),
                        (0, [1, 2, 3, 4, 4, 3, 2]), (-7, [1, 2, 3, 4, 4, 3, 2]), (994, [1, 2, 3, 4, 4, 3, 2])):
            with self.subTest(k=k):
                self.assertEqual(made(1, [1, 2, 3, 4, 5, 6, 7], 1, k), then)

    def test_half_turns_far_and_below_0(self):
        row = [1, 2, 3, 4, 5, 6, 7]
        for k, above in ((1000, [7, 6, 5, 4, 3, 2, 1]), (6, [7, 6, 5, 4, 3, 2, 1]), (-1, [7, 6, 5, 4, 3, 2, 1]),
                         (-1000, [2, 1, 7, 6, 5, 4, 3]), (1, [2, 1, 7, 6, 5, 4, 3]), (8, [2, 1, 7, 6, 5, 4, 3]),
                         (0, [1, 7, 6, 5, 4, 3, 2]), (-7, [1, 7, 6, 5, 4, 3, 2]), (994, [1, 7, 6, 5, 4, 3, 2])):
            with self.subTest(k=k):
                self.assertEqual(made(2, row + [0] * 7, 3, k), row + above)

    def test_flipped_steps_far_and_below_0(self):
        # Of 8 columns; a step of 4 twice over is one of 8, so that only these keep all eight colours.
        row = [1, 2, 3, 4, 5, 6, 7, 8]
        for k in (4, -4, 12, 996, -996):
            with self.subTest(k=k):
                self.assertEqual(made(2, row + [0] * 8, 2, k), row + row[4:] + row[:4])
        # 1000 and -1000 are multiples of 8; 998 is 6 above one: steps of 4, upside down of 2.
        for k in (1000, -1000, 0, 8):
            self.assertEqual(made(2, row + [0] * 8, 2, k), row + row)
        for k in (998, -998, 2, -2):
            self.assertEqual(made(2, row + [0] * 8, 2, k), [1, 2, 3, 4] * 2 + [3, 4, 1, 2] * 2)


if __name__ == "__main__":
    unittest.main()
