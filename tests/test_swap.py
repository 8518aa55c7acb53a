"""swap: colours brought together, left as they are, and exchanged."""

import unittest

from calling import BY_TYPE, all_told, ask, keep, kinds, same, show, strip, swap

AS_IT_IS = list(range(10))


def exchanged(one, other):
    """Ten colours that exchange these two."""
    colours = list(AS_IT_IS)
    colours[one] = other
    colours[other] = one
    return colours


class Swap(unittest.TestCase):
    def test_each_colour_becomes_the_one_told_for_it(self):
        told = ask(strip(1, AS_IT_IS), swap(3, 1, 4, 1, 5, 9, 2, 6, 5, 8), show())
        self.assertEqual(told, [[10, 5], [10, 5], [10, 1, 3, 1, 4, 1, 5, 9, 2, 6, 5, 8]])

    def test_all_cells_at_once(self):
        # 1 becomes 2 and 2 becomes 3: what was 1 is not taken on to 3.
        told = ask(strip(2, [1, 2, 3, 3, 2, 0]), swap(1, 2, 3, 0, 4, 5, 6, 7, 8, 9), show())
        self.assertEqual(told[2], [3, 2, 2, 3, 0, 0, 3, 1])

    def test_two_colours_come_together(self):
        together = [0, 1, 2, 1, 4, 5, 6, 7, 8, 9]
        told = ask(strip(2, [1, 2, 3, 0, 0, 0]), kinds(), swap(*together), show(), kinds())
        self.assertEqual(told, [[3, 0], [1, 0, 0, 0, 0], [3, 2], [3, 2, 1, 2, 1, 0, 0, 0], [1, 0, 1, 2, 0, 0]])
        told = ask(strip(1, [1, 2, 3, 2]), swap(*together), show())
        self.assertEqual(told, [[4, 6], [2, 6], [4, 1, 1, 2, 1, 2]])

    def test_all_colours_come_together(self):
        for colour in range(10):
            for colours, told_kinds, told_least in BY_TYPE:
                w = len(colours) // 2
                told = ask(strip(2, colours), swap(*[colour] * 10), show())
                self.assertEqual(told[1:], [[1, 6], [w, 2] + [colour] * (2 * w)])

    def test_it_may_leave_all_as_it_is(self):
        for number, (colours, told_kinds, told_least) in enumerate(BY_TYPE):
            w = len(colours) // 2
            # None of these strips has a colour above 3.
            for ten in (AS_IT_IS, [0, 1, 2, 3, 9, 9, 9, 9, 9, 9]):
                told = ask(strip(2, colours), *all_told(), swap(*ten), *all_told(), show())
                self.assertEqual(told[5], [w, number])
                self.assertEqual(told[6:10], told[1:5])
                self.assertEqual(told[10], [w, 2] + colours)

    def test_colours_are_exchanged(self):
        for number, (colours, told_kinds, told_least) in enumerate(BY_TYPE):
            w = len(colours) // 2
            ten = exchanged(0, 1)
            told = ask(strip(2, colours), swap(*ten), show(), kinds(), swap(*ten), show())
            # Other colours, but the same motions; a second time brings all back.
            self.assertEqual(told[1:], [[w, number], [w, 2] + [ten[colour] for colour in colours], told_kinds,
                                        [w, number], [w, 2] + colours])

    def test_colours_0_and_9(self):
        told = ask(strip(1, [0, 9, 9]), swap(*exchanged(0, 9)), show())
        self.assertEqual(told, [[3, 6], [3, 6], [3, 1, 9, 0, 0]])

    def test_w_stays_as_told(self):
        told = ask(strip(6, [1, 2, 1, 2] * 6), swap(*[7] * 10), show())
        self.assertEqual(told, [[2, 6], [1, 6], [4, 6] + [7] * 24])

    def test_the_kept_one_stays(self):
        told = ask(strip(1, [0, 1]), keep(), same(), swap(*exchanged(1, 2)), same(), swap(*exchanged(1, 2)), same())
        self.assertEqual(told, [[2, 6], [2], [1, 0, 0], [2, 6], [0], [2, 6], [1, 0, 0]])
        told = ask(strip(1, [0, 1]), keep(), swap(*exchanged(0, 1)), same())
        self.assertEqual(told[3], [1, 0, 1])

    def test_ahead_of_any_strip(self):
        self.assertEqual(ask(swap(6, 1, 2, 3, 4, 5, 0, 7, 8, 9), show()), [[1, 6], [1, 1, 6]])


if __name__ == "__main__":
    unittest.main()
