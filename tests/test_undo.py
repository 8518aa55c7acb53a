"""undo and show: each change undone, several behind one another, and what is shown behind each."""

import unittest

from calling import (all_told, ask, keep, kinds, least, make, paint, period, same, set_cell, show, strip, swap,
                     type_of, undo)

FIRST = [1, 2, 3,
         0, 0, 0]
SHOWN = [3, 2] + FIRST

# Each change of FIRST: the call; what it answers; what is shown then.
CHANGES = (
    (strip(1, [5, 5, 6, 6]), [4, 6], [4, 1, 5, 5, 6, 6]),
    (paint(4, 0, 3), [1, 3, 2], [3, 2, 1, 3, 3, 0, 0, 0]),
    (set_cell(-1, 1, 7), [3, 0], [3, 2, 1, 2, 3, 0, 0, 7]),
    (make(2, 0), [3, 5], [3, 2, 1, 2, 3, 1, 2, 3]),
    (swap(9, 8, 7, 6, 5, 4, 3, 2, 1, 0), [3, 0], [3, 2, 8, 7, 6, 9, 9, 9]),
)

# Changes of FIRST that leave every cell as it is.
IDLE = (strip(2, FIRST), paint(0, 0, 1), set_cell(0, 0, 1), make(0, 3), swap(*range(10)))


class Show(unittest.TestCase):
    def test_ahead_of_any_strip(self):
        self.assertEqual(ask(show()), [[1, 1, 0]])

    def test_as_they_are_told(self):
        for h in range(1, 7):
            for w in range(1, 13):
                colours = [(7 * n + n * n // 5) % 10 for n in range(h * w)]
                self.assertEqual(ask(strip(h, colours), show())[1], [w, h] + colours)

    def test_w_is_as_told_where_it_repeats_oftener(self):
        self.assertEqual(ask(strip(1, [1, 0] * 6), show()), [[2, 6], [12, 1] + [1, 0] * 6])
        told = ask(strip(1, [1, 0, 2, 0]), paint(2, 0, 1), show(), set_cell(3, 0, 5), show())
        self.assertEqual(told, [[4, 6], [1, 2, 6], [4, 1, 1, 0, 1, 0], [4, 6], [4, 1, 1, 0, 1, 5]])

    def test_behind_each_change(self):
        for call, told, shown in CHANGES:
            with self.subTest(call=call):
                self.assertEqual(ask(strip(2, FIRST), call, show()), [[3, 0], told, shown])

    def test_behind_each_call_that_only_answers(self):
        for call in (period(), kinds(), type_of(), least(), keep(), same(), show()):
            with self.subTest(call=call):
                self.assertEqual(ask(strip(2, FIRST), call, show())[2], SHOWN)

    def test_paint_and_all_that_go_along(self):
        # Half a turn takes (0, 0) to (2, 1); w is 6, the period 3.
        told = ask(strip(2, [1, 2, 3] * 2 + [3, 2, 1] * 2), paint(-3, 0, 9), show())
        self.assertEqual(told, [[3, 3], [4, 3, 3], [6, 2, 9, 2, 3, 9, 2, 3, 3, 2, 9, 3, 2, 9]])

    def test_set_at_columns_far_and_below_0(self):
        told = ask(strip(2, [0] * 14), set_cell(1000, 0, 1), set_cell(-1000, 1, 2), show())
        self.assertEqual(told[3], [7, 2] + [0, 0, 0, 0, 0, 0, 1] + [0, 2, 0, 0, 0, 0, 0])


class UndoEach(unittest.TestCase):
    def test_each_change(self):
        for call, told, shown in CHANGES:
            with self.subTest(call=call):
                given = ask(strip(2, FIRST), *all_told(), call, undo(), *all_told(), show())
                self.assertEqual(given[5:7], [told, [3, 0]])
                self.assertEqual(given[7:11], given[1:5])
                self.assertEqual(given[11], SHOWN)

    def test_each_change_ahead_of_any_strip(self):
        for call, told, shown in CHANGES:
            if call[0] in (0, 7, 8):
                with self.subTest(call=call):
                    given = ask(call, undo(), show(), undo())
                    self.assertEqual(given[1:], [[1, 6], [1, 1, 0], [-7]])
        for call in (paint(0, 0, 4), set_cell(0, 0, 4)):
            self.assertEqual(ask(call, show(), undo(), show(), undo())[1:],
                             [[1, 1, 4], [1, 6], [1, 1, 0], [-7]])

    def test_a_change_that_leaves_all_as_it_is_counts(self):
        for call in IDLE:
            with self.subTest(call=call):
                given = ask(set_cell(0, 0, 4), strip(2, FIRST), call, undo(), show(), undo(), show(), undo(), undo())
                self.assertEqual(given[3:], [[3, 0], SHOWN, [1, 6], [1, 1, 4], [1, 6], [-7]])

    def test_calls_that_change_nothing_are_not_undone(self):
        asked = [period(), kinds(), type_of(), least(), keep(), same(), show()]
        for call in asked:
            with self.subTest(call=call):
                self.assertEqual(ask(call, undo())[1], [-7])
                given = ask(strip(1, [7]), strip(2, FIRST), call, undo(), show(), call, undo(), show(), call, undo())
                self.assertEqual(given[3:5], [[1, 6], [1, 1, 7]])
                self.assertEqual(given[6:8], [[1, 6], [1, 1, 0]])
                self.assertEqual(given[9], [-7])
        given = ask(strip(1, [7]), strip(2, FIRST), *asked, undo(), show())
        self.assertEqual(given[9:], [[1, 6], [1, 1, 7]])

    def test_keep_is_not_undone(self):
        given = ask(strip(2, FIRST), set_cell(0, 0, 9), keep(), undo(), same(), set_cell(0, 0, 9), same())
        self.assertEqual(given, [[3, 0], [3, 0], [3], [3, 0], [0], [3, 0], [1, 0, 0]])
        given = ask(strip(2, FIRST), keep(), undo(), show(), same())
        self.assertEqual(given[2:], [[1, 6], [1, 1, 0], [0]])


class UndoSeveral(unittest.TestCase):
    def test_back_to_the_very_first_and_once_more(self):
        calls = [strip(2, FIRST), set_cell(0, 1, 4), paint(1, 0, 5), make(1, 0), swap(1, 2, 3, 4, 5, 6, 7, 8, 9, 0)]
        shown = [[1, 1, 0],
                 [3, 2, 1, 2, 3, 0, 0, 0],
                 [3, 2, 1, 2, 3, 4, 0, 0],
                 [3, 2, 1, 5, 3, 4, 0, 0],
                 [3, 2, 1, 5, 5, 4, 0, 0],
                 [3, 2, 2, 6, 6, 5, 1, 1]]
        how = [[1, 6], [3, 0], [3, 0], [3, 0], [3, 2], [3, 2]]
        line = [show()]
        wanted = [shown[0]]
        for n, call in enumerate(calls):
            line += [call, show()]
            wanted += [how[n + 1] if call[0] != 5 else [1] + how[n + 1], shown[n + 1]]
        for n in reversed(range(len(calls))):
            line += [undo(), show()]
            wanted += [how[n], shown[n]]
        line += [undo(), show(), undo(), show()]
        wanted += [[-7], shown[0], [-7], shown[0]]
        self.assertEqual(ask(*line), wanted)

    def test_what_is_undone_is_not_undone_again(self):
        # a, b, undo, c, undo, undo: c goes, then a.
        given = ask(set_cell(0, 0, 1), set_cell(0, 0, 2), undo(), show(), set_cell(0, 0, 3), undo(), show(),
                    undo(), show(), undo())
        self.assertEqual(given, [[1, 6], [1, 6], [1, 6], [1, 1, 1], [1, 6], [1, 6], [1, 1, 1],
                                 [1, 6], [1, 1, 0], [-7]])

    def test_undo_is_not_undone(self):
        given = ask(strip(1, [1, 2]), undo(), undo(), show(), strip(1, [3, 4]), show(), undo(), show(), undo())
        self.assertEqual(given, [[2, 6], [1, 6], [-7], [1, 1, 0], [2, 6], [2, 1, 3, 4], [1, 6], [1, 1, 0], [-7]])

    def test_heights_and_columns_come_back(self):
        given = ask(strip(6, [1] * 72), strip(2, FIRST), strip(3, [1, 2, 3]), undo(), paint(0, 1, 5), undo(), undo(),
                    set_cell(11, 5, 2), show())
        self.assertEqual(given[3:8], [[3, 0], [1, 3, 0], [3, 0], [1, 6], [12, 2]])
        self.assertEqual(given[8], [12, 6] + [1] * 71 + [2])

    def test_twenty_changes_and_twenty_undos(self):
        calls = [set_cell(0, 0, n % 10) for n in range(1, 21)] + [undo()] * 20
        self.assertEqual(len(calls), 40)
        self.assertEqual(ask(*calls), [[1, 6]] * 40)

    def test_as_many_changes_as_a_line_holds(self):
        # Nineteen strips, each undone in its turn, and the first of all is there again.
        strips = [strip(1, [n % 10] + [(n + 1) % 10] * (n % 12)) for n in range(19)]
        given = ask(*strips, *[undo()] * 19, undo(), show())
        told = given[:19]
        self.assertEqual(given[19:], told[:-1][::-1] + [[1, 6], [-7], [1, 1, 0]])

    def test_behind_a_refusal_the_call_ahead_of_it_is_undone(self):
        for refused in (strip(0, []), paint(0, 2, 1), set_cell(1001, 0, 1), make(4, 0), swap(1)):
            with self.subTest(refused=refused):
                given = ask(strip(1, [7, 8]), strip(2, FIRST), refused, undo(), show(), refused, undo(), show(), undo())
                self.assertEqual(given[2], [-1])
                self.assertEqual(given[3:5], [[2, 6], [2, 1, 7, 8]])
                self.assertEqual(given[6:], [[1, 6], [1, 1, 0], [-7]])


class NothingToUndo(unittest.TestCase):
    def test_all_is_as_it_was(self):
        given = ask(undo(), show(), *all_told(), same(), undo())
        self.assertEqual(given, [[-7], [1, 1, 0], [1], [1, 0, 1, 0, 1, 0, 1, 0], [6], [1, 0], [1, 0, 0], [-7]])

    def test_behind_refusals_alone(self):
        given = ask(strip(7, [0]), paint(0, 1, 1), set_cell(0, 0, 10), make(-1, 0), swap(), undo(), show())
        self.assertEqual(given, [[-1]] * 5 + [[-7], [1, 1, 0]])

    def test_a_refused_undo_leaves_the_kept_one(self):
        given = ask(strip(1, [1, 2]), keep(), undo(), undo(), same(), strip(1, [2, 1]), same())
        self.assertEqual(given[3:], [[-7], [0], [2, 6], [1, 0, 1]])


if __name__ == "__main__":
    unittest.main()
