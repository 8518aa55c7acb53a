"""Wrong inputs: each ground of a refusal, that it is answered alone, and that all is as it was then."""

import unittest

from calling import BY_TYPE, all_told, ask, keep, make, paint, same, set_cell, show, strip, swap, undo

FARTHEST = 4294967295

WRONG_STRIPS = (
    ("h below 1", 0, [1, 2, 3]),
    ("h far below 1", -1, [1, 2, 3]),
    ("h -3, which divides", -3, [1, 2, 3]),
    ("h lowest", -FARTHEST, [1]),
    ("h above 6", 7, [1, 2, 3, 4, 5, 6, 7]),
    ("h 8", 8, [1] * 16),
    ("h highest", FARTHEST, [1]),
    ("no colours, h 1", 1, []),
    ("no colours, h 6", 6, []),
    ("no colours, h 0", 0, []),
    ("h does not divide", 2, [1, 2, 3]),
    ("h does not divide, fewer than h", 6, [1, 2, 3]),
    ("h does not divide, one too many", 6, [1] * 61),
    ("13 columns, one row", 1, [1] * 13),
    ("13 columns, six rows", 6, [1] * 78),
    ("14 columns of which the last are over", 2, [1, 2] * 14),
    ("100 columns", 1, [1] * 100),
    ("50 columns", 2, [1] * 100),
    ("20 columns", 5, [1] * 100),
    ("colour below 0, first", 1, [-1, 0]),
    ("colour below 0, last", 2, [0, 0, 0, -1]),
    ("colour above 9, first", 1, [10, 0]),
    ("colour above 9, last", 2, [0, 0, 0, 10]),
    ("colour lowest", 1, [0, -FARTHEST]),
    ("colour highest", 1, [0, FARTHEST]),
    ("all at once", -FARTHEST, [FARTHEST] * 100),
)

# For a strip of two rows.
WRONG_CELLS = (
    ("x below -1000", -1001, 0, 1),
    ("x above 1000", 1001, 0, 1),
    ("x lowest", -FARTHEST, 1, 1),
    ("x highest", FARTHEST, 1, 1),
    ("row below 0", 0, -1, 1),
    ("row -2", 0, -2, 1),
    ("row above the highest", 0, 2, 1),
    ("row lowest", 0, -FARTHEST, 1),
    ("row highest", 0, FARTHEST, 1),
    ("colour below 0", 0, 0, -1),
    ("colour above 9", 0, 0, 10),
    ("colour lowest", 0, 1, -FARTHEST),
    ("colour highest", 0, 1, FARTHEST),
    ("x and row", 1001, 2, 1),
    ("row and colour", 0, -1, 10),
    ("all at once", -FARTHEST, FARTHEST, -FARTHEST),
)

WRONG_MOTIONS = (
    ("kind below 0", -1, 0),
    ("kind -4", -4, 1),
    ("kind above 3", 4, 0),
    ("kind lowest", -FARTHEST, 1),
    ("kind highest", FARTHEST, 1),
    ("k below -1000, kind 0", 0, -1001),
    ("k below -1000, kind 1", 1, -1001),
    ("k below -1000, kind 2", 2, -1001),
    ("k below -1000, kind 3", 3, -1001),
    ("k above 1000, kind 0", 0, 1001),
    ("k above 1000, kind 1", 1, 1001),
    ("k above 1000, kind 2", 2, 1001),
    ("k above 1000, kind 3", 3, 1001),
    ("k lowest", 0, -FARTHEST),
    ("k highest", 3, FARTHEST),
    ("kind and k", 4, 1001),
    ("both lowest", -FARTHEST, -FARTHEST),
    ("both highest", FARTHEST, FARTHEST),
)

WRONG_COLOURS = (
    ("none", []),
    ("one", [0]),
    ("nine", [1] * 9),
    ("eleven", [1] * 11),
    ("twelve", [1] * 12),
    ("eleven, the last of which is none", [1] * 10 + [10]),
    ("nine and one below 0", [1] * 9 + [-1]),
    ("first below 0", [-1] + [1] * 9),
    ("last above 9", [1] * 9 + [10]),
    ("first above 9", [10] + [1] * 9),
    ("one in the middle above 9, which no cell has", [1] * 5 + [10] + [1] * 4),
    ("lowest", [1] * 9 + [-FARTHEST]),
    ("highest", [FARTHEST] + [1] * 9),
    ("all lowest", [-FARTHEST] * 10),
    ("all highest, twelve", [FARTHEST] * 12),
)


def wrong_calls():
    found = [(ground, strip(h, colours)) for ground, h, colours in WRONG_STRIPS]
    for ground, x, y, colour in WRONG_CELLS:
        found.append(("paint: " + ground, paint(x, y, colour)))
        found.append(("set: " + ground, set_cell(x, y, colour)))
    found.extend([("make: " + ground, make(kind, k)) for ground, kind, k in WRONG_MOTIONS])
    found.extend([("swap: " + ground, swap(*colours)) for ground, colours in WRONG_COLOURS])
    return found


def whole_state():
    """Calls that tell all of the strip, and of the kept one beside it, without changing either."""
    return [*all_told(), show(), same()]


class Refusals(unittest.TestCase):
    def test_each_is_answered_alone_and_all_is_as_it_was(self):
        for ground, call in wrong_calls():
            for colours, told_kinds, told_least in BY_TYPE:
                with self.subTest(ground=ground, colours=colours):
                    # The kept one is half a turn away.
                    ahead = [strip(2, colours[::-1]), keep(), strip(2, colours)]
                    told = ask(*ahead, *whole_state(), call, *whole_state(), undo(), show())
                    self.assertEqual(told[8][0], 1)
                    self.assertEqual(told[9], [-1])
                    self.assertEqual(told[10:16], told[3:9])
                    self.assertEqual(told[16:], [told[0], [len(colours) // 2, 2] + colours[::-1]])

    def test_colours_and_w_are_as_they_were(self):
        # t is 2, w is 4: paint counts within w, and set with what stood there changes nothing.
        whole = [set_cell(x, y, (x + y) % 2) for y in range(2) for x in range(4)]
        for ground, call in wrong_calls():
            with self.subTest(ground=ground):
                told = ask(strip(2, [0, 1, 0, 1, 1, 0, 1, 0]), call, *whole, paint(0, 0, 5))
                self.assertEqual(told, [[2, 4], [-1]] + [[2, 4]] * 8 + [[4, 2, 4]])

    def test_ahead_of_any_strip(self):
        for ground, call in wrong_calls():
            with self.subTest(ground=ground):
                told = ask(call, *whole_state(), undo(), show(), paint(5, 0, 1))
                self.assertEqual(told, [[-1], [1], [1, 0, 1, 0, 1, 0, 1, 0], [6], [1, 0], [1, 1, 0], [1, 0, 0],
                                        [-7], [1, 1, 0], [1, 1, 6]])

    def test_rows_are_those_of_the_strip_as_it_is(self):
        for h in range(1, 7):
            for y in (-h, -1, h, h + 1, 6):
                with self.subTest(h=h, y=y):
                    told = ask(strip(6, [0] * 12), strip(h, [0, 1] * h), paint(0, y, 1), set_cell(0, y, 1), *all_told())
                    self.assertEqual(told[2:5], [[-1], [-1], [2]])

    def test_a_call_behind_a_refusal_is_answered(self):
        told = ask(strip(2, [1]), strip(2, [1, 2]), paint(0, 2, 0), paint(0, 1, 1), set_cell(0, 0, 10), set_cell(0, 0, 3))
        self.assertEqual(told, [[-1], [1, 2], [-1], [1, 1, 6], [-1], [1, 2]])
        told = ask(make(0, 1001), make(0, 1000), swap(*[3] * 9), swap(*[3] * 10), swap(*[4] * 11), show(), undo(), show())
        self.assertEqual(told, [[-1], [1, 6], [-1], [1, 6], [-1], [1, 1, 3], [1, 6], [1, 1, 0]])

    def test_forty_refusals(self):
        calls = [call for ground, call in wrong_calls()]
        while calls:
            self.assertEqual(ask(*calls[:38], undo(), show()), [[-1]] * len(calls[:38]) + [[-7], [1, 1, 0]])
            calls = calls[38:]


if __name__ == "__main__":
    unittest.main()
