"""Wrong inputs: each ground of -1, that it is answered alone, and that all is as it was then."""

import unittest

from calling import BY_TYPE, all_told, ask, paint, set_cell, strip

FARTHEST = 4294967295

WRONG_STRIPS = (
    ("h below 1", 0, [1, 2, 3]),
    ("h far below 1", -1, [1, 2, 3]),
    ("h -3, which divides", -3, [1, 2, 3]),
    ("h lowest", -FARTHEST, [1]),
    ("h above 6", 7, [1, 2, 3, 4, 5, 6, 7]),
    ("h 8", 8, [1] * 16),
    ("h highest", FARTHEST, [1]),
    ("no colours, h 1", 1, []),
    ("no colours, h 6", 6, []),
    ("no colours, h 0", 0, []),
    ("h does not divide", 2, [1, 2, 3]),
    ("h does not divide, fewer than h", 6, [1, 2, 3]),
    ("h does not divide, one too many", 6, [1] * 61),
    ("13 columns, one row", 1, [1] * 13),
    ("13 columns, six rows", 6, [1] * 78),
    ("14 columns of which the last are over", 2, [1, 2] * 14),
    ("100 columns", 1, [1] * 100),
    ("50 columns", 2, [1] * 100),
    ("20 columns", 5, [1] * 100),
    ("colour below 0, first", 1, [-1, 0]),
    ("colour below 0, last", 2, [0, 0, 0, -1]),
    ("colour above 9, first", 1, [10, 0]),
    ("colour above 9, last", 2, [0, 0, 0, 10]),
    ("colour lowest", 1, [0, -FARTHEST]),
    ("colour highest", 1, [0, FARTHEST]),
    ("all at once", -FARTHEST, [FARTHEST] * 100),
)

# For a strip of two rows.
WRONG_CELLS = (
    ("x below -1000", -1001, 0, 1),
    ("x above 1000", 1001, 0, 1),
    ("x lowest", -FARTHEST, 1, 1),
    ("x highest", FARTHEST, 1, 1),
    ("row below 0", 0, -1, 1),
    ("row -2", 0, -2, 1),
    ("row above the highest", 0, 2, 1),
    ("row lowest", 0, -FARTHEST, 1),
    ("row highest", 0, FARTHEST, 1),
    ("colour below 0", 0, 0, -1),
    ("colour above 9", 0, 0, 10),
    ("colour lowest", 0, 1, -FARTHEST),
    ("colour highest", 0, 1, FARTHEST),
    ("x and row", 1001, 2, 1),
    ("row and colour", 0, -1, 10),
    ("all at once", -FARTHEST, FARTHEST, -FARTHEST),
)


def wrong_calls():
    found = [(ground, strip(h, colours)) for ground, h, colours in WRONG_STRIPS]
    for ground, x, y, colour in WRONG_CELLS:
        found.append(("paint: " + ground, paint(x, y, colour)))
        found.append(("set: " + ground, set_cell(x, y, colour)))
    return found


class Refusals(unittest.TestCase):
    def test_each_is_answered_alone_and_all_is_as_it_was(self):
        for ground, call in wrong_calls():
            for colours, told_kinds, told_least in BY_TYPE:
                with self.subTest(ground=ground, colours=colours):
                    told = ask(strip(2, colours), *all_told(), call, *all_told())
                    self.assertEqual(told[5], [-1])
                    self.assertEqual(told[6:], told[1:5])

    def test_colours_and_w_are_as_they_were(self):
        # t is 2, w is 4: paint counts within w, and set with what stood there changes nothing.
        whole = [set_cell(x, y, (x + y) % 2) for y in range(2) for x in range(4)]
        for ground, call in wrong_calls():
            with self.subTest(ground=ground):
                told = ask(strip(2, [0, 1, 0, 1, 1, 0, 1, 0]), call, *whole, paint(0, 0, 5))
                self.assertEqual(told, [[2, 4], [-1]] + [[2, 4]] * 8 + [[4, 2, 4]])

    def test_ahead_of_any_strip(self):
        for ground, call in wrong_calls():
            with self.subTest(ground=ground):
                told = ask(call, *all_told(), paint(5, 0, 1))
                self.assertEqual(told, [[-1], [1], [1, 0, 1, 0, 1, 0, 1, 0], [6], [1, 0], [1, 1, 6]])

    def test_rows_are_those_of_the_strip_as_it_is(self):
        for h in range(1, 7):
            for y in (-h, -1, h, h + 1, 6):
                with self.subTest(h=h, y=y):
                    told = ask(strip(6, [0] * 12), strip(h, [0, 1] * h), paint(0, y, 1), set_cell(0, y, 1), *all_told())
                    self.assertEqual(told[2:5], [[-1], [-1], [2]])

    def test_a_call_behind_a_refusal_is_answered(self):
        told = ask(strip(2, [1]), strip(2, [1, 2]), paint(0, 2, 0), paint(0, 1, 1), set_cell(0, 0, 10), set_cell(0, 0, 3))
        self.assertEqual(told, [[-1], [1, 2], [-1], [1, 1, 6], [-1], [1, 2]])


if __name__ == "__main__":
    unittest.main()
